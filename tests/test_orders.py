"""Point 10: breach and orders."""

import unittest

from lateststore.errors import NoStore
from lateststore.orders import breach, orders
from lateststore.programs import Fence, Flush, Memory, Program, Store, stores
from tests.helper import (Checks, bare, chained, drawn_programs, plain_breach, safe, short_programs,
                          with_line_numbers)


class BreachTest(Checks):
    def test_both_directions(self):
        self.assertEqual(breach(bare(), (0, 1)), (0, 1))
        self.assertEqual(breach(bare(), (1, 0)), (1, 0))
        self.assertIsNone(breach(safe(), (0, 1)))
        self.assertEqual(breach(safe(), (1, 0)), (1, 0))

    def test_kinds(self):
        self.assertIs(type(breach(program=bare(), order=[0, 1])), tuple)
        self.assertEqual(breach(bare(), [0, 1]), (0, 1))

    def test_a_store_with_itself(self):
        for program in (bare(), safe(), chained(33)):
            for store in range(len(stores(program))):
                self.assertIsNone(breach(program, (store, store)))

    def test_stores_of_one_line(self):
        program = Program(Memory([2, 1]), [Store(0, 0, 1), Store(1, 0, 1), Store(0, 1, 1), Store(0, 0, 2)])
        self.assertIsNone(breach(program, (0, 2)))
        self.assertIsNone(breach(program, (2, 3)))
        self.assertEqual(breach(program, (2, 0)), (1, 0))
        self.assertEqual(breach(program, (3, 2)), (2, 0))

    def test_a_flush_without_a_fence_between(self):
        a, b = Store(0, 0, 1), Store(1, 0, 1)
        for commands in ([a, Flush(0), b, Fence()], [a, Fence(), Flush(0), b], [Flush(0), a, Fence(), b],
                         [a, Flush(1), Fence(), b], [a, b, Flush(0), Fence()]):
            self.assertEqual(breach(Program(Memory([1, 1]), commands), (0, 1)), (0, 1))
        for commands in ([a, Flush(0), Flush(1), Fence(), b], [a, Flush(0), Fence(), Flush(0), b, Fence()]):
            self.assertIsNone(breach(Program(Memory([1, 1]), commands), (0, 1)))

    def test_the_smallest_image_has_what_is_sure(self):
        memory = Memory([1, 1, 1])
        program = Program(memory, [Store(0, 0, 1), Flush(0), Fence(), Store(1, 0, 1), Store(2, 0, 1), Store(0, 0, 2)])
        self.assertEqual(breach(program, (1, 2)), (1, 0, 1))
        self.assertEqual(breach(program, (2, 3)), (2, 0, 0))

    def test_wrong_stores(self):
        for program, wrong in ((bare(), (-1, 2, 10 ** 30)), (Program(Memory([1]), []), (-1, 0))):
            for store in wrong:
                self.refused(NoStore, {"store": store}, breach, program, (store, store))
        self.refused(NoStore, {"store": 2}, breach, bare(), (0, 2))
        self.refused(NoStore, {"store": 2}, breach, bare(), (2, 0))
        self.refused(NoStore, {"store": 5}, breach, bare(), (5, -1))
        self.refused(NoStore, {"store": -1}, breach, bare(), [-1, 5])
        # Numbers of stores, not of commands.
        self.refused(NoStore, {"store": 3}, breach, safe(), (0, 3))

    def test_against_the_plain_search(self):
        for program in short_programs(4) + drawn_programs(150, 8):
            many = len(stores(program))
            for order in [(a, b) for a in range(many) for b in range(many)]:
                self.assertEqual(breach(program, order), plain_breach(program, order))


class OrdersTest(Checks):
    def test_none(self):
        self.assertEqual(orders(Program(Memory([1]), [])), [])
        self.assertEqual(orders(Program(Memory([1]), [Store(0, 0, 1)])), [])
        self.assertEqual(orders(bare()), [])

    def test_one_line(self):
        program = Program(Memory([1]), [Store(0, 0, 1)] * 3)
        self.assertEqual(orders(program), [(0, 1), (0, 2), (1, 2)])

    def test_sorted(self):
        memory = Memory([1, 1, 1])
        program = Program(memory, [Store(2, 0, 1), Flush(2), Fence(), Store(1, 0, 1), Store(0, 0, 1), Store(1, 0, 2)])
        self.assertEqual(orders(program=program), [(0, 1), (0, 2), (0, 3), (1, 3)])

    def test_kinds(self):
        found = orders(safe())
        self.assertEqual((type(found), type(found[0])), (list, tuple))
        found.clear()
        self.assertEqual(orders(safe()), [(0, 1)])

    def test_against_the_plain_search(self):
        for program in short_programs(4) + drawn_programs(150, 9):
            many = len(stores(program))
            self.assertEqual(orders(program), [(a, b) for a in range(many) for b in range(many)
                                               if a != b and plain_breach(program, (a, b)) is None])

    def test_most_commands(self):
        memory = Memory([1] * 6)
        program = Program(memory, [Store(at % 6, 0, at) for at in range(200)])
        numbered = with_line_numbers(program)
        self.assertEqual(orders(program), [(a, b) for a in range(200) for b in range(a + 1, 200)
                                           if numbered[a][0] == numbered[b][0]])
        self.assertIsNone(breach(program, (193, 199)))
        self.assertEqual(breach(program, (199, 193)), (0, 33, 0, 0, 0, 0))
        self.assertEqual(breach(program, (198, 199)), (0, 34, 0, 0, 0, 0))

    def test_most_commands_with_fences(self):
        program = Program(Memory([1, 1]), [Store(0, 0, 1), Flush(0), Fence(), Store(1, 0, 1)] * 50)
        # The stores of line 0 come before all later ones; the stores of line 1 only before their own line's.
        self.assertEqual(orders(program), [(a, b) for a in range(100) for b in range(a + 1, 100)
                                           if a % 2 == 0 or b % 2 == 1])


if __name__ == "__main__":
    unittest.main()
