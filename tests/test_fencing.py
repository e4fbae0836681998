"""Point 11: fenced, with Fenced and Never."""

import unittest
from itertools import combinations
from random import Random

from lateststore.errors import BadCount, NoLine, NoStore, NoWord
from lateststore.fencing import Fenced, Never, fenced
from lateststore.orders import breach
from lateststore.programs import Fence, Flush, Memory, Program, Store, stores
from tests.helper import Checks, bare, plain_breach, safe


def fences_of(program):
    return len([command for command in program.commands if isinstance(command, Fence)])


def fenced_at(memory, listed, gaps):
    """The stores with a fence, and flushes of all lines before it, in each of the gaps."""
    commands = []
    for at, store in enumerate(listed):
        if at - 1 in gaps:
            commands += [Flush(line) for line in range(len(memory.sizes))] + [Fence()]
        commands.append(store)
    return Program(memory, commands)


def plain_fewest(memory, listed, orders):
    """The smallest number of gaps such that fences in them are enough; flushing more lines never harms an order."""
    for many in range(len(listed) + 1):
        for gaps in combinations(range(len(listed) - 1), many):
            program = fenced_at(memory, listed, gaps)
            if all(plain_breach(program, order) is None for order in orders):
                return many
    return None


class ResultsTest(Checks):
    def test_fenced_fields(self):
        apart = [[0, 1], (2, 3)]
        found = Fenced(safe(), apart)
        apart[0][0] = 9
        apart.append((4, 5))
        self.assertEqual(vars(found), {"result": safe(), "apart": ((0, 1), (2, 3))})
        self.assertEqual([type(found.apart)] + [type(order) for order in found.apart], [tuple] * 3)
        self.same(Fenced(apart=((0, 1), (2, 3)), result=safe()), found)
        self.assertEqual(Fenced(safe(), []).apart, ())

    def test_never_fields(self):
        order = [3, -1]
        found = Never(order)
        order[0] = 9
        self.assertEqual(vars(found), {"order": (3, -1)})
        self.assertIs(type(found.order), tuple)
        self.same(Never(order=(3, -1)), found)

    def test_equality(self):
        for changed in (Fenced(bare(), [(0, 1)]), Fenced(safe(), []), Fenced(safe(), [(1, 0)]), Never((0, 1)), safe(), None):
            self.other(Fenced(safe(), [(0, 1)]), changed)
        for changed in (Never((1, 0)), Never((0, 0)), (0, 1), None):
            self.other(Never((0, 1)), changed)


class FencedTest(Checks):
    def test_two_stores(self):
        found = fenced(orders=[[0, 1]], stores=(Store(0, 0, 1), Store(1, 0, 1)), memory=Memory([1, 1]))
        self.same(found, Fenced(safe(), ((0, 1),)))
        self.assertEqual((type(found.apart), type(found.apart[0])), (tuple, tuple))

    def test_nothing(self):
        memory = Memory([2])
        self.same(fenced(memory, [], []), Fenced(Program(memory, []), ()))
        listed = [Store(0, 0, 1), Store(0, 1, 2)]
        self.same(fenced(memory, listed, []), Fenced(Program(memory, listed), ()))

    def test_orders_that_hold_by_themselves(self):
        memory = Memory([2, 1])
        listed = [Store(0, 0, 1), Store(1, 0, 1), Store(0, 1, 2)]
        orders = [(0, 0), (1, 1), (2, 2), (0, 2)]
        self.same(fenced(memory, listed, orders), Fenced(Program(memory, listed), ()))

    def test_one_fence_for_all(self):
        memory = Memory([1, 1, 1])
        listed = [Store(0, 0, 1), Store(1, 0, 1), Store(2, 0, 1), Store(0, 0, 2)]
        found = fenced(memory, listed, [(0, 2), (1, 3), (1, 2)])
        self.assertEqual((fences_of(found.result), len(found.apart)), (1, 1))
        self.assertEqual(stores(found.result), listed)

    def test_apart_in_the_order_in_which_they_were_passed(self):
        memory = Memory([1, 1])
        listed = [Store(at % 2, 0, at) for at in range(6)]
        for orders in ([(4, 5), (0, 1), (2, 3)], [(0, 1), (2, 3), (4, 5)], [(2, 3), (4, 5), (0, 1)]):
            found = fenced(memory, listed, orders)
            self.assertEqual(found.apart, tuple(orders))
            self.assertEqual(fences_of(found.result), 3)

    def test_an_order_twice(self):
        found = fenced(Memory([1, 1]), bare().commands, [(0, 1), (0, 1)])
        self.same(found, Fenced(safe(), ((0, 1),)))

    def test_never(self):
        memory = Memory([1, 1])
        listed = [Store(0, 0, 1), Store(1, 0, 1), Store(0, 0, 2)]
        self.same(fenced(memory, listed, [(0, 1), [2, 1], (1, 0)]), Never((2, 1)))
        self.same(fenced(memory, listed, [(1, 0), (2, 1)]), Never((1, 0)))
        # Of one line, too.
        found = fenced(memory, listed, [(2, 0)])
        self.same(found, Never((2, 0)))
        self.assertIs(type(found.order), tuple)

    def test_arguments_stay(self):
        listed, orders = [Store(0, 0, 1), Store(1, 0, 1)], [[0, 1]]
        found = fenced(Memory([1, 1]), listed, orders)
        self.assertEqual((listed, orders), ([Store(0, 0, 1), Store(1, 0, 1)], [[0, 1]]))
        listed.clear()
        orders[0][0] = 1
        self.same(found, Fenced(safe(), ((0, 1),)))

    def test_equal_arguments(self):
        memory, listed = Memory([1, 1, 1]), [Store(at % 3, 0, at) for at in range(9)]
        orders = [(0, 4), (1, 3), (3, 8), (5, 7), (2, 6)]
        self.same(fenced(memory, listed, orders), fenced(memory, tuple(listed), tuple(map(list, orders))))


class WrongTest(Checks):
    def test_stores(self):
        memory = Memory([1])
        self.assertEqual(len(fenced(memory, [Store(0, 0, 1)] * 25, []).result.commands), 25)
        self.refused(BadCount, {"what": "stores", "count": 26}, fenced, memory, [Store(0, 0, 1)] * 26, [])
        self.refused(BadCount, {"what": "stores", "count": 300}, fenced, memory, [Store(0, 0, 1)] * 300, [])

    def test_orders(self):
        memory, listed = Memory([1, 1]), bare().commands
        self.same(fenced(memory, listed, [(0, 1)] * 30), Fenced(safe(), ((0, 1),)))
        self.refused(BadCount, {"what": "orders", "count": 31}, fenced, memory, listed, [(0, 1)] * 31)

    def test_parts(self):
        memory = Memory([1, 2])
        self.refused(NoLine, {"line": 2}, fenced, memory, [Store(1, 1, 0), Store(2, 9, 0), Store(0, 1, 0)], [])
        self.refused(NoWord, {"word": 1}, fenced, memory, [Store(0, 1, 0), Store(-1, 0, 0)], [])

    def test_numbers_of_stores(self):
        memory, listed = Memory([1, 1]), bare().commands
        self.refused(NoStore, {"store": 2}, fenced, memory, listed, [(0, 1), (1, 2), (-1, 0)])
        self.refused(NoStore, {"store": -1}, fenced, memory, listed, [(-1, 2)])
        self.refused(NoStore, {"store": 10 ** 30}, fenced, memory, listed, [(10 ** 30, -7)])
        self.refused(NoStore, {"store": 0}, fenced, memory, [], [(0, 0)])

    def test_which_comes_first(self):
        memory = Memory([1])
        bad = Store(5, 0, 0)
        self.refused(BadCount, {"what": "stores", "count": 26}, fenced, memory, [bad] * 26, [(0, 99)] * 31)
        self.refused(NoLine, {"line": 5}, fenced, memory, [bad] * 25, [(0, 99)] * 31)
        self.refused(BadCount, {"what": "orders", "count": 31}, fenced, memory, [Store(0, 0, 0)] * 25, [(0, 99)] * 31)
        # An invalid number comes before an order that cannot hold, wherever it stands.
        self.refused(NoStore, {"store": 99}, fenced, memory, [Store(0, 0, 0)] * 25, [(1, 0), (0, 99)])


class FewestTest(Checks):
    def check_form(self, found, memory, listed, orders):
        """All that the document says of a result but that no smaller number of fences is enough."""
        self.assertIs(type(found), Fenced)
        self.assertEqual(found.result.memory, memory)
        self.assertEqual(stores(found.result), list(listed))
        commands = found.result.commands
        for command, following in zip(commands, commands[1:] + (Store(0, 0, 0),)):
            if isinstance(command, Flush):
                self.assertNotIsInstance(following, Store)
        for order in orders:
            self.assertIsNone(breach(found.result, order))
        self.check_apart(found, listed, orders)

    def check_apart(self, found, listed, orders):
        self.assertEqual(len(found.apart), fences_of(found.result))
        left = list(map(tuple, orders))
        for order in found.apart:
            # Each one comes after the place of the one before, so they stand as they were passed.
            left = left[left.index(order) + 1:]
            self.assertNotEqual(listed[order[0]].line, listed[order[1]].line)
        for one, other in combinations(found.apart, 2):
            self.assertEqual(set(range(*one)) & set(range(*other)), set())

    def drawn_case(self, drawn, most_lines, most_stores, most_orders):
        sizes = [drawn.randrange(1, 5) for _ in range(drawn.randrange(1, most_lines + 1))]
        listed = []
        for _ in range(drawn.randrange(1, most_stores + 1)):
            line = drawn.randrange(len(sizes))
            listed.append(Store(line, drawn.randrange(sizes[line]), drawn.randrange(-3, 4)))
        orders = [sorted(drawn.choices(range(len(listed)), k=2)) for _ in range(drawn.randrange(most_orders + 1))]
        return Memory(sizes), listed, orders

    def test_against_the_plain_search(self):
        drawn = Random(10)
        for _ in range(250):
            memory, listed, orders = self.drawn_case(drawn, 4, 7, 6)
            found = fenced(memory, listed, orders)
            self.check_form(found, memory, listed, orders)
            for order in orders:
                self.assertIsNone(plain_breach(found.result, order))
            self.assertEqual(fences_of(found.result), plain_fewest(memory, listed, orders))

    def test_all_small_sets_of_orders(self):
        memory = Memory([1, 1])
        listed = [Store(at % 2, 0, at) for at in range(5)]
        pairs = [(a, b) for a in range(5) for b in range(a + 1, 5) if (b - a) % 2]
        for many in range(len(pairs) + 1):
            for orders in combinations(pairs, many):
                found = fenced(memory, listed, orders)
                self.check_form(found, memory, listed, orders)
                self.assertEqual(fences_of(found.result), plain_fewest(memory, listed, orders))

    def test_large_ones(self):
        drawn = Random(11)
        for _ in range(200):
            memory, listed, orders = self.drawn_case(drawn, 6, 25, 30)
            self.check_form(fenced(memory, listed, orders), memory, listed, orders)

    def test_the_largest(self):
        memory = Memory([1] * 6)
        listed = [Store(at % 6, 0, 10 ** 40 + at) for at in range(25)]
        orders = [(at, at + 1) for at in range(24)] + [(0, 24 - at) for at in range(6)]
        found = fenced(memory, listed, orders)
        self.check_form(found, memory, listed, orders)
        self.assertEqual((fences_of(found.result), found.apart), (24, tuple(orders[:24])))
        wide = [(a, b) for a in range(5) for b in range(7, 12)] + [(0, 24)] * 5
        found = fenced(memory, listed, wide)
        self.check_form(found, memory, listed, wide)
        self.assertEqual(fences_of(found.result), 1)


if __name__ == "__main__":
    unittest.main()
