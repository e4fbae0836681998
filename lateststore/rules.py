"""Conditions on words, and the first possible images that meet them or break a rule."""

from lateststore.images import boxes, rows_of_lines
from lateststore.programs import check_word


class Is:
    """The condition that a word has one of some numbers."""

    def __init__(self, line, word, numbers):
        self.line = line
        self.word = word
        self.numbers = tuple(sorted(set(numbers)))

    def __eq__(self, other):
        return (isinstance(other, Is) and self.line == other.line
                and self.word == other.word and self.numbers == other.numbers)


def check_conditions(memory, conditions):
    for condition in conditions:
        check_word(memory, condition.line, condition.word)


def is_met(condition, row):
    """Return whether the words of the condition's line meet it."""
    return row[condition.word] in condition.numbers


def fitting(rows, conditions):
    """Return for each line whether its words meet all conditions on it, by the number of its stores, from 0 on."""
    found = []
    for line, states in enumerate(rows):
        own = [condition for condition in conditions if condition.line == line]
        found.append([all([is_met(condition, row) for condition in own]) for row in states])
    return found


def next_fits(fits):
    """Return for each number of stores the least one from it on that fits, or one that is greater than all."""
    found = []
    latest = len(fits)
    for number in range(len(fits) - 1, -1, -1):
        if fits[number]:
            latest = number
        found.append(latest)
    return found[::-1]


def smallest_in(box, choice):
    """Return the smallest image of a box whose number on each line fits, or None."""
    image = []
    for low, high, nexts in zip(box.low, box.high, choice):
        number = nexts[low]
        if number > high:
            return None
        image.append(number)
    return tuple(image)


def first_image(program, choices):
    """Return the first possible image whose numbers fit in one of the choices, or None."""
    for box in boxes(program):
        images = [smallest_in(box, choice) for choice in choices]
        found = [image for image in images if image is not None]
        if found:
            return min(found)
    return None


def find(program, conditions):
    """Return the first possible image whose contents meet all conditions, or None."""
    check_conditions(program.memory, conditions)
    fits_of_lines = fitting(rows_of_lines(program), conditions)
    return first_image(program, [[next_fits(fits) for fits in fits_of_lines]])


def broken(program, given, wanted):
    """Return the first possible image whose contents meet all given but not all wanted conditions, or None."""
    check_conditions(program.memory, given)
    check_conditions(program.memory, wanted)
    rows = rows_of_lines(program)
    met = fitting(rows, given)
    kept = fitting(rows, wanted)
    nexts = [next_fits(fits) for fits in met]
    choices = []
    # The wanted conditions are not all met exactly if those on some line are not.
    for line in range(len(nexts)):
        failing = [fits and not keeps for fits, keeps in zip(met[line], kept[line])]
        if any(failing):
            choices.append(nexts[:line] + [next_fits(failing)] + nexts[line + 1:])
    return first_image(program, choices)
