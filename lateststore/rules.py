"""Conditions on words, and the first possible images that meet them or break a rule."""

from lateststore.images import boxes, rows_of_lines
from lateststore.programs import check_word


class Is:
    """The condition that a word has one of some numbers."""

    def __init__(self, line, word, numbers):
        self.line = line
        self.word = word
        self.numbers = tuple(sorted(set(numbers)))

    def __eq__(self, other):
        return (isinstance(other, Is) and self.line == other.line
                and self.word == other.word and self.numbers == other.numbers)


def check_conditions(memory, conditions):
    for condition in conditions:
        check_word(memory, condition.line, condition.word)


def is_met(condition, row):
    """Return whether the words of the condition's line meet it."""
    return row[condition.word] in condition.numbers


def fitting(program, conditions):
    """Return for each line the ascending list of its numbers of stores that meet all conditions on it."""
    found = []
    for line, rows in enumerate(rows_of_lines(program)):
        own = [condition for condition in conditions if condition.line == line]
        found.append([many for many, row in enumerate(rows) if all([is_met(condition, row) for condition in own])])
    return found


def smallest_in(box, choice):
    """Return the smallest image of a box with one number of a choice's list for each line, or None."""
    image = []
    for low, high, numbers in zip(box.low, box.high, choice):
        inside = [number for number in numbers if low <= number <= high]
        if not inside:
            return None
        image.append(inside[0])
    return tuple(image)


def first_image(program, choices):
    """Return the first possible image that has its numbers from one of the choices, or None."""
    for box in boxes(program):
        images = [smallest_in(box, choice) for choice in choices]
        found = [image for image in images if image is not None]
        if found:
            return min(found)
    return None


def find(program, conditions):
    """Return the first possible image whose contents meet all conditions, or None."""
    check_conditions(program.memory, conditions)
    return first_image(program, [fitting(program, conditions)])


def broken(program, given, wanted):
    """Return the first possible image whose contents meet all given but not all wanted conditions, or None."""
    check_conditions(program.memory, given)
    check_conditions(program.memory, wanted)
    meeting = fitting(program, given)
    choices = []
    # The wanted conditions are not all met exactly if those on some line are not.
    for line, kept in enumerate(fitting(program, wanted)):
        failing = [number for number in meeting[line] if number not in kept]
        choices.append(meeting[:line] + [failing] + meeting[line + 1:])
    return first_image(program, choices)
