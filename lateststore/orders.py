"""Orders of stores: which hold for all possible images, and what breaks the others."""

from lateststore.errors import NoStore
from lateststore.images import boxes
from lateststore.programs import stores


def check_order(many, order):
    """Check that both numbers of an order are numbers of so many stores."""
    for store in order:
        if not 0 <= store < many:
            raise NoStore(store)


def is_kept(line, first, second):
    """Return whether a store to a line is durable in all images with another store, by the boxes of the two."""
    # The high of a store's own box is its number on its line. And no possible
    # image with the second store has fewer stores on any line than the low of its box.
    return second.low[line] >= first.high[line]


def breach(program, order):
    """Return the smallest possible image in which only the second store of an order is durable, or None."""
    listed = stores(program)
    check_order(len(listed), order)
    before, after = order
    of_stores = boxes(program)[1:]
    if is_kept(listed[before].line, of_stores[before], of_stores[after]):
        return None
    return of_stores[after].low


def orders(program):
    """Return the sorted list of all orders of two different stores that hold."""
    of_stores = boxes(program)[1:]
    found = []
    for before, store in enumerate(stores(program)):
        for after, box in enumerate(of_stores):
            if before != after and is_kept(store.line, of_stores[before], box):
                found.append((before, after))
    return found
