"""Recoveries after a cut, and whether they end well even if they are cut themselves."""

from lateststore.errors import BadCount, OtherMemory, Wide
from lateststore.images import after_store, count, possible_images, rows_after, rows_of_lines, words_of
from lateststore.programs import Program, Store, check_word
from lateststore.rules import check_conditions, is_met

MOST_STEPS = 12
MOST_MOVES = 8
MOST_IMAGES = 300


class Copy:
    """The move that writes the number of one word into another one."""

    def __init__(self, line, word, from_line, from_word):
        self.line = line
        self.word = word
        self.from_line = from_line
        self.from_word = from_word

    def __eq__(self, other):
        return (isinstance(other, Copy) and self.line == other.line and self.word == other.word
                and self.from_line == other.from_line and self.from_word == other.from_word)


class Step:
    """Moves that are done if the words meet all conditions."""

    def __init__(self, conditions, moves):
        self.conditions = tuple(conditions)
        self.moves = tuple(moves)

    def __eq__(self, other):
        return isinstance(other, Step) and self.conditions == other.conditions and self.moves == other.moves


class Recovery:
    """A sequence of steps for a memory."""

    def __init__(self, memory, steps):
        check_steps(memory, steps)
        self.memory = memory
        self.steps = tuple(steps)

    def __eq__(self, other):
        return isinstance(other, Recovery) and self.memory == other.memory and self.steps == other.steps


class Failed:
    """An image for which a recovery ends badly, after an own cut if second is an image, and its end."""

    def __init__(self, image, second, words):
        self.image = tuple(image)
        self.second = None if second is None else tuple(second)
        self.words = as_contents(words)

    def __eq__(self, other):
        return (isinstance(other, Failed) and self.image == other.image
                and self.second == other.second and self.words == other.words)


def as_contents(rows):
    """Return the words of all lines as a tuple of tuples."""
    return tuple([tuple(row) for row in rows])


def check_move(memory, move):
    check_word(memory, move.line, move.word)
    if isinstance(move, Copy):
        check_word(memory, move.from_line, move.from_word)


def check_steps(memory, steps):
    if len(steps) > MOST_STEPS:
        raise BadCount("steps", len(steps))
    moves = sum([len(step.moves) for step in steps])
    if moves > MOST_MOVES:
        raise BadCount("moves", moves)
    for step in steps:
        check_conditions(memory, step.conditions)
        for move in step.moves:
            check_move(memory, move)


def check_shape(memory, words):
    if tuple(map(len, words)) != memory.sizes:
        raise OtherMemory()


def as_store(move, words):
    """Return the store that a move makes while the words are such."""
    if isinstance(move, Copy):
        return Store(move.line, move.word, words[move.from_line][move.from_word])
    return move


def run(recovery, words):
    """Return the contents after all steps, and the list of the stores that they make."""
    rows = list(words)
    done = []
    for step in recovery.steps:
        if all([is_met(condition, rows[condition.line]) for condition in step.conditions]):
            for move in step.moves:
                store = as_store(move, rows)
                rows[store.line] = after_store(rows[store.line], store)
                done.append(store)
    return tuple(rows), done


def settle(recovery, words):
    """Return the contents after the steps of a recovery have been done in order."""
    check_shape(recovery.memory, words)
    end, _ = run(recovery, as_contents(words))
    return end


def bad_end(recovery, words, allowed):
    """Return the image of an own cut, or None, and the contents of the first end that is not allowed, or None."""
    end, done = run(recovery, words)
    if end not in allowed:
        return None, end
    # Without moves a cut leaves the words as they were, so the second run ends as the first one.
    if not done:
        return None
    rows = rows_after(words, done)
    for second in possible_images(Program(recovery.memory, done)):
        end, _ = run(recovery, words_of(rows, second))
        if end not in allowed:
            return second, end
    return None


def check(program, recovery, good):
    """Return the first failure of a recovery after a cut of the program, or None if it always ends well."""
    if program.memory != recovery.memory:
        raise OtherMemory()
    for words in good:
        check_shape(program.memory, words)
    if count(program) > MOST_IMAGES:
        raise Wide(MOST_IMAGES + 1)
    allowed = {as_contents(words): True for words in good}
    rows = rows_of_lines(program)
    tried = {}
    for image in possible_images(program):
        start = words_of(rows, image)
        # A recovery only sees the contents, and different images may have equal ones.
        if start not in tried:
            tried[start] = True
            found = bad_end(recovery, start, allowed)
            if found is not None:
                second, end = found
                return Failed(image, second, end)
    return None
