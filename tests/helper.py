"""What several test files use: checks, small programs, and a plain search over all times and all images."""

import unittest
from itertools import product
from random import Random

from lateststore.programs import Fence, Flush, Memory, Program, Store
from lateststore.rules import Is


class Checks(unittest.TestCase):
    def refused(self, kind, fields, action, *given, **named):
        with self.assertRaises(kind) as caught:
            action(*given, **named)
        self.assertIs(caught.exception.__class__, kind)
        self.assertEqual(vars(caught.exception), fields)

    def same(self, one, other):
        self.assertTrue(one == other)
        self.assertFalse(one != other)

    def other(self, one, other):
        for left, right in ((one, other), (other, one)):
            self.assertFalse(left == right)
            self.assertTrue(left != right)


def bare():
    return Program(Memory([1, 1]), [Store(0, 0, 1), Store(1, 0, 1)])


def safe():
    return Program(Memory([1, 1]), [Store(0, 0, 1), Flush(0), Fence(), Store(1, 0, 1)])


def chained(stores_of_each, sizes=(1, 1, 1, 1, 1, 1)):
    """A program of stores only, line after line in turn."""
    commands = [Store(line, 0, turn) for turn in range(stores_of_each) for line in range(len(sizes))]
    return Program(Memory(sizes), commands)


def short_programs(length):
    """All programs of up to so many commands over two lines of one word."""
    memory = Memory([1, 1])
    alphabet = [Store(0, 0, 1), Store(1, 0, 2), Flush(0), Flush(1), Fence()]
    return [Program(memory, commands)
            for many in range(length + 1) for commands in product(alphabet, repeat=many)]


def drawn_command(drawn, sizes):
    line = drawn.randrange(len(sizes))
    kind = drawn.randrange(6)
    if kind < 3:
        return Store(line, drawn.randrange(sizes[line]), drawn.randrange(-2, 3))
    if kind < 5:
        return Flush(line)
    return Fence()


def drawn_programs(many, seed, most_commands=12, most_stores=7):
    """Programs of one to six lines, always the same ones for a seed, few stores in each."""
    drawn = Random(seed)
    found = []
    while len(found) < many:
        sizes = [drawn.randrange(1, 5) for _ in range(drawn.randrange(1, 7))]
        commands = [drawn_command(drawn, sizes) for _ in range(drawn.randrange(most_commands + 1))]
        if len([c for c in commands if isinstance(c, Store)]) <= most_stores:
            found.append(Program(Memory(sizes), commands))
    return found


def with_other_fences(program, drawn):
    """The program's stores in their order, with other flushes and fences between them."""
    sizes = program.memory.sizes
    commands = []
    for command in program.commands:
        if isinstance(command, Store):
            while drawn.randrange(2):
                commands.append(drawn.choice([Flush(drawn.randrange(len(sizes))), Fence()]))
            commands.append(command)
    return Program(program.memory, commands)


def stores_before(program, line, time):
    return len([c for c in program.commands[:time] if isinstance(c, Store) and c.line == line])


def plain_made(program, time):
    return tuple(stores_before(program, line, time) for line in range(len(program.memory.sizes)))


def plain_sure(program, time):
    """By the words of the document: over all pairs of a flush and a fence after it."""
    commands = program.commands[:time]
    best = [0] * len(program.memory.sizes)
    for first, flush in enumerate(commands):
        for fence in commands[first + 1:]:
            if isinstance(flush, Flush) and isinstance(fence, Fence):
                best[flush.line] = max(best[flush.line], stores_before(program, flush.line, first))
    return tuple(best)


def all_images(program):
    """All images of the right form in ascending order, possible or not."""
    totals = plain_made(program, len(program.commands))
    return list(product(*[range(total + 1) for total in totals]))


def plain_times(program):
    """For each image of the right form the list of all times at which a cut can leave it."""
    found = {image: [] for image in all_images(program)}
    for time in range(len(program.commands) + 1):
        low, high = plain_sure(program, time), plain_made(program, time)
        for image in product(*[range(a, b + 1) for a, b in zip(low, high)]):
            found[image].append(time)
    return found


def plain_possible(program):
    """The set of all possible images."""
    return {image for image, times in plain_times(program).items() if times}


def plain_latest(program, image):
    """The time just after the latest store of an image, 0 for zeros."""
    seen = [0] * len(image)
    latest = 0
    for at, command in enumerate(program.commands):
        if isinstance(command, Store):
            seen[command.line] += 1
            if seen[command.line] <= image[command.line]:
                latest = at + 1
    return latest


def plain_order(program):
    """The list of all possible images in their order."""
    return sorted(plain_possible(program), key=lambda image: (plain_latest(program, image), image))


def plain_contents(program, image):
    """The last durable store to each word, line by line."""
    words = [[0] * size for size in program.memory.sizes]
    for line, many in enumerate(image):
        of_line = [c for c in program.commands if isinstance(c, Store) and c.line == line]
        for store in of_line[:many]:
            words[line][store.word] = store.number
    return tuple(map(tuple, words))


def with_line_numbers(program):
    """All stores as pairs: the line, and the number on the line, counted from 1."""
    lines = [c.line for c in program.commands if isinstance(c, Store)]
    return [(line, lines[:at + 1].count(line)) for at, line in enumerate(lines)]


def plain_breach(program, order):
    """The smallest possible image with the second store of an order and without the first one."""
    numbered = with_line_numbers(program)
    (first_line, first), (second_line, second) = (numbered[store] for store in order)
    return min((image for image in plain_possible(program)
                if image[second_line] >= second and image[first_line] < first), default=None)


def meets(words, conditions):
    return all(words[condition.line][condition.word] in condition.numbers for condition in conditions)


def plain_broken(program, given, wanted):
    for image in plain_order(program):
        words = plain_contents(program, image)
        if meets(words, given) and not meets(words, wanted):
            return image
    return None


def drawn_conditions(drawn, sizes, most):
    found = []
    for _ in range(drawn.randrange(most + 1)):
        line = drawn.randrange(len(sizes))
        numbers = [drawn.randrange(-2, 3) for _ in range(drawn.randrange(1, 4))]
        found.append(Is(line, drawn.randrange(sizes[line]), numbers))
    return found
