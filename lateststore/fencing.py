"""As few fences as possible, so that orders hold."""

from lateststore.errors import BadCount
from lateststore.orders import check_order
from lateststore.programs import Fence, Flush, Program, check_commands

MOST_STORES = 25
MOST_ORDERS = 30


class Fenced:
    """A program in which the orders hold, and orders that show that it needs all of its fences."""

    def __init__(self, result, apart):
        self.result = result
        self.apart = tuple([tuple(order) for order in apart])

    def __eq__(self, other):
        return isinstance(other, Fenced) and self.result == other.result and self.apart == other.apart


class Never:
    """An order that no fences can make hold."""

    def __init__(self, order):
        self.order = tuple(order)

    def __eq__(self, other):
        return isinstance(other, Never) and self.order == other.order


def check_demand(memory, stores, orders):
    if len(stores) > MOST_STORES:
        raise BadCount("stores", len(stores))
    check_commands(memory, stores)
    if len(orders) > MOST_ORDERS:
        raise BadCount("orders", len(orders))
    for order in orders:
        check_order(len(stores), order)


def needs_fence(stores, order):
    """Return whether an order does not hold by itself, as orders of one line do."""
    before, after = order
    return stores[before].line != stores[after].line


def orders_apart(orders):
    """Return the places of as many orders as possible of which no two have a gap between stores in common."""
    ends = sorted([(after, before, place) for place, (before, after) in enumerate(orders)])
    places = []
    fence = 0
    # A fence directly before the earliest second store is of use to all
    # orders that have a gap in common with this order, so none of them needs another one.
    for after, before, place in ends:
        if before >= fence:
            places.append(place)
            fence = after
    return sorted(places)


def lines_before(stores, orders, fence, last_fence):
    """Return the lines to flush before a fence: those of first stores between the last fence and it."""
    return sorted(set([stores[before].line for before, _ in orders if last_fence <= before < fence]))


def with_fences(stores, orders, fences):
    """Return the commands with fences directly before the stores at some places, and with flushes for the orders."""
    commands = []
    last_fence = 0
    for place, store in enumerate(stores):
        if place in fences:
            commands.extend([Flush(line) for line in lines_before(stores, orders, place, last_fence)])
            commands.append(Fence())
            last_fence = place
        commands.append(store)
    return commands


def fenced(memory, stores, orders):
    """Place flushes and as few fences as possible between stores, so that all orders hold."""
    check_demand(memory, stores, orders)
    for before, after in orders:
        if before > after:
            return Never((before, after))
    needy = [order for order in orders if needs_fence(stores, order)]
    apart = [needy[place] for place in orders_apart(needy)]
    fences = [after for _, after in apart]
    return Fenced(Program(memory, with_fences(stores, needy, fences)), apart)
