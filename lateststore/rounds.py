"""How many images are possible if a block of commands is repeated, also very many times."""

from lateststore.errors import BadCount
from lateststore.images import count
from lateststore.programs import Program, check_commands

MOST_TOGETHER = 20
MOST_ROUNDS = 10 ** 30
STEADY_ROUND = 2


def check_repeated(memory, head, block, tail, rounds):
    together = len(head) + len(block) + len(tail)
    if together > MOST_TOGETHER:
        raise BadCount("commands", together)
    for part in (head, block, tail):
        check_commands(memory, part)
    if not 0 <= rounds <= MOST_ROUNDS:
        raise BadCount("rounds", rounds)


def count_written_out(memory, head, block, tail, rounds):
    """Return the number of possible images for few rounds."""
    return count(Program(memory, tuple(head) + tuple(block) * rounds + tuple(tail)))


def value_at(values, place):
    """Return the value at a place of the polynomial that has the values at 0, 1, and so on."""
    total = 0
    row = list(values)
    ways = 1
    # Newton's form: the first differences of each order, times the ways to choose so many of place things.
    for order in range(len(values)):
        total = total + ways * row[0]
        ways = ways * (place - order) // (order + 1)
        row = [after - before for before, after in zip(row, row[1:])]
    return total


def count_repeated(memory, head, block, tail, rounds):
    """Return the number of possible images of head, then block so many times, then tail."""
    check_repeated(memory, head, block, tail, rounds)
    known = STEADY_ROUND + len(memory.sizes)
    if rounds <= known:
        return count_written_out(memory, head, block, tail, rounds)
    # What is sure at a store rests on a fence of its round or of the one before, and this on a flush of that round or
    # of the one before. So from the third round on, what a round adds is a polynomial of lower degree than there are
    # lines, and what the tail adds is one from two rounds on.
    values = [count_written_out(memory, head, block, tail, few) for few in range(STEADY_ROUND, known + 1)]
    return value_at(values, rounds - STEADY_ROUND)
