"""Programs compared by their possible images, and commands that are needless for these."""

from lateststore.errors import OtherStores
from lateststore.images import boxes
from lateststore.programs import Program, Store, stores


class Parted:
    """An image that is possible in exactly one of two programs."""

    def __init__(self, image, is_first):
        self.image = tuple(image)
        self.is_first = is_first

    def __eq__(self, other):
        return (isinstance(other, Parted) and self.image == other.image
                and self.is_first == other.is_first)


def differ(one, other):
    """Return the smallest image that is possible in exactly one of the programs, or None."""
    if one.memory != other.memory or stores(one) != stores(other):
        raise OtherStores()
    pairs = []
    # The two boxes of a store have the same high. So if one holds an image
    # that the other lacks, then its low is the smallest such image.
    for ours, theirs in zip(boxes(one), boxes(other)):
        if ours.low not in theirs:
            pairs.append((ours.low, True))
        if theirs.low not in ours:
            pairs.append((theirs.low, False))
    if not pairs:
        return None
    image, is_first = min(pairs)
    return Parted(image, is_first)


def without(program, at):
    """Return the program without the command at a place."""
    return Program(program.memory, program.commands[:at] + program.commands[at + 1:])


def is_needless(program, at):
    """Return whether the command at a place is a flush or fence that changes no possible image."""
    if isinstance(program.commands[at], Store):
        return False
    return differ(program, without(program, at)) is None


def needless(program):
    """Return the places of all flushes and fences that are needless alone."""
    return [at for at in range(len(program.commands)) if is_needless(program, at)]


def trimmed(program):
    """Return the program without the commands that are needless, from the last one to the first."""
    result = program
    for at in range(len(program.commands) - 1, -1, -1):
        if is_needless(result, at):
            result = without(result, at)
    return result
