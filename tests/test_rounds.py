"""Point 15: count_repeated."""

import unittest
from itertools import product
from random import Random

from lateststore.errors import BadCount, NoLine, NoWord
from lateststore.images import count
from lateststore.programs import Fence, Flush, Memory, Program, Store
from lateststore.rounds import count_repeated
from tests.helper import Checks, drawn_command, plain_possible

MOST = 10 ** 30
A, B, C = Store(0, 0, 1), Store(1, 0, 1), Store(2, 0, 1)


def plain_count(lines, commands):
    """The number of possible images, store by store: those that a cut just after the store can leave with it."""
    made, flushed, sure = [0] * lines, [0] * lines, [0] * lines
    total = 1
    for command in commands:
        if isinstance(command, Flush):
            flushed[command.line] = made[command.line]
        elif isinstance(command, Fence):
            sure = list(flushed)
        else:
            made[command.line] += 1
            product_of_others = 1
            for line in range(lines):
                if line != command.line:
                    product_of_others *= made[line] - sure[line] + 1
            total += product_of_others
    return total


def written_out(head, block, tail, rounds):
    return list(head) + list(block) * rounds + list(tail)


def differences(values, order):
    for _ in range(order):
        values = [after - before for before, after in zip(values, values[1:])]
    return values


def drawn_parts(drawn, sizes, most):
    """Head, block and tail of up to so many commands together, so that flushes and fences reach across the ends."""
    commands = [drawn_command(drawn, sizes) for _ in range(drawn.randrange(most + 1))]
    first, second = sorted(drawn.randrange(len(commands) + 1) for _ in range(2))
    return commands[:first], commands[first:second], commands[second:]


class CountRepeatedTest(Checks):
    def check_parts(self, memory, head, block, tail, most_rounds):
        for rounds in range(most_rounds + 1):
            found = count_repeated(memory, head, block, tail, rounds)
            commands = written_out(head, block, tail, rounds)
            self.assertEqual(found, plain_count(len(memory.sizes), commands), (head, block, tail, rounds))
            if len(commands) <= 200:
                self.assertEqual(found, count(Program(memory, commands)))

    def test_stores_alone(self):
        block = [A, B]
        for rounds in (0, 1, 2, 3, 4, 5, 1000, MOST - 1, MOST):
            self.assertEqual(count_repeated(Memory([1, 1]), [], block, [], rounds), (rounds + 1) ** 2)
        for rounds in (0, 1, 7, 8, 9, 10 ** 9, MOST):
            block = [Store(line, 0, 1) for line in range(6)]
            self.assertEqual(count_repeated(Memory([1] * 6), [], block, [], rounds), (rounds + 1) ** 6)

    def test_several_stores_in_a_round(self):
        for rounds in (0, 1, 2, 3, 50, MOST):
            self.assertEqual(count_repeated(Memory([2, 1]), [B], [A, A, Store(0, 1, 5)], [B, B], rounds),
                             (3 * rounds + 1) * 4)

    def test_fenced_rounds(self):
        for rounds in (0, 1, 2, 3, 4, 99, MOST):
            self.assertEqual(count_repeated(Memory([1, 1]), [], [A, Flush(0), Fence()], [], rounds), rounds + 1)
            self.assertEqual(count_repeated(Memory([1, 1]), [], [A, Flush(0), Fence(), B], [], rounds),
                             1 + rounds + rounds * (rounds + 1) // 2)

    def test_a_fence_that_rests_on_the_round_before(self):
        # The fence of a round comes before its flush, so what the flush of one round covers is sure in the next one.
        self.check_parts(Memory([1, 1]), [], [Fence(), A, Flush(0), B], [], 12)
        self.check_parts(Memory([1, 1]), [], [Fence(), A, B, Flush(0)], [B, Fence(), A], 12)
        # And a store before the fence rests on the fence of the round before it, and on a flush one round further.
        self.check_parts(Memory([1, 1]), [], [B, Fence(), Flush(0), A], [B], 12)
        self.check_parts(Memory([1, 1, 1]), [A], [B, C, Fence(), C, Flush(0), Flush(1), A], [B, Fence(), C, A, B], 12)

    def test_the_head_reaches_into_the_block(self):
        self.check_parts(Memory([1, 1]), [A, A, Flush(0)], [B, Fence()], [], 12)
        self.check_parts(Memory([1, 1]), [A, Flush(0), A], [B, Fence(), A], [B], 12)
        self.assertEqual(count_repeated(Memory([1, 1]), [A, Flush(0)], [Fence(), B], [], MOST), MOST + 2)

    def test_the_tail_ends_what_the_block_has_flushed(self):
        self.assertEqual(count_repeated(Memory([1, 1]), [], [A, Flush(0)], [Fence(), B], MOST), MOST + 2)
        self.assertEqual(count_repeated(Memory([1, 1]), [], [A, Flush(0)], [B, Fence()], MOST), 2 * MOST + 2)
        self.assertEqual(count_repeated(Memory([1, 1]), [], [A], [Flush(0), Fence(), B], MOST), MOST + 2)
        self.check_parts(Memory([1, 1]), [], [Flush(0), A], [Fence(), B], 12)

    def test_no_block(self):
        for rounds in (0, 1, 2, 3, 12, MOST):
            self.assertEqual(count_repeated(Memory([1, 1]), [A], [], [B, Flush(0), Fence()], rounds), 4)
            self.assertEqual(count_repeated(Memory([1]), [], [], [], rounds), 1)

    def test_no_rounds(self):
        self.assertEqual(count_repeated(Memory([1, 1]), [A], [B] * 18, [A], 0), 3)
        self.assertEqual(count_repeated(Memory([1, 1]), [A, Flush(0)], [B], [Fence(), B], 0), 3)

    def test_by_name_with_lists_or_tuples(self):
        head, block, tail = [A], [B], [A, Fence()]
        found = count_repeated(rounds=10, tail=tail, block=block, head=head, memory=Memory([1, 1]))
        self.assertIs(type(found), int)
        self.assertEqual((head, block, tail), ([A], [B], [A, Fence()]))
        self.assertEqual(found, count_repeated(Memory([1, 1]), (A,), (B,), (A, Fence()), 10))

    def test_how_many_commands(self):
        memory = Memory([1])
        for head, block, tail in ((20, 0, 0), (0, 20, 0), (0, 0, 20), (7, 6, 7)):
            found = count_repeated(memory, [A] * head, [A] * block, [A] * tail, 3)
            self.assertEqual(found, 1 + head + 3 * block + tail)
            for more in ((head + 1, block, tail), (head, block + 1, tail), (head, block, tail + 1)):
                parts = [[A] * many for many in more]
                self.refused(BadCount, {"what": "commands", "count": 21}, count_repeated, memory, *parts, 0)
        self.refused(BadCount, {"what": "commands", "count": 60}, count_repeated, memory, [A] * 20, [A] * 20, [A] * 20, 1)

    def test_how_many_rounds(self):
        memory = Memory([1])
        self.assertEqual(count_repeated(memory, [], [A], [], 0), 1)
        self.assertEqual(count_repeated(memory, [], [A], [], MOST), MOST + 1)
        for rounds in (-1, -MOST, MOST + 1, 10 ** 60):
            self.refused(BadCount, {"what": "rounds", "count": rounds}, count_repeated, memory, [], [A], [], rounds)
            self.refused(BadCount, {"what": "rounds", "count": rounds}, count_repeated, memory, [], [], [], rounds)

    def test_wrong_commands(self):
        memory = Memory([1, 2])
        for at in range(3):
            for rounds in (0, 1, MOST):
                for command, kind, fields in ((Flush(2), NoLine, {"line": 2}), (Store(-1, 0, 0), NoLine, {"line": -1}),
                                              (Store(0, 1, 0), NoWord, {"word": 1}),
                                              (Store(1, -1, 0), NoWord, {"word": -1}),
                                              (Store(2, 9, 0), NoLine, {"line": 2})):
                    parts = [[A], [Fence(), B], [Flush(1)]]
                    parts[at].append(command)
                    self.refused(kind, fields, count_repeated, memory, *parts, rounds)

    def test_which_comes_first(self):
        memory = Memory([1])
        wrong = [Flush(5)]
        self.refused(BadCount, {"what": "commands", "count": 21}, count_repeated, memory, wrong, [A] * 20, [], -1)
        self.refused(NoLine, {"line": 5}, count_repeated, memory, [A] * 19, wrong, [], -1)
        self.refused(NoLine, {"line": 5}, count_repeated, memory, wrong, [Flush(6)], [Flush(7)], 0)
        self.refused(NoLine, {"line": 6}, count_repeated, memory, [A], [Flush(6)], [Flush(7)], 0)
        self.refused(NoLine, {"line": 7}, count_repeated, memory, [A], [A], [Flush(7), Store(0, 1, 0)], MOST + 1)
        self.refused(NoWord, {"word": 1}, count_repeated, memory, [A], [A, Store(0, 1, 0), Flush(7)], [Flush(6)], 2)


class AgainstPlainCountsTest(Checks):
    def check_parts(self, memory, head, block, tail, all_rounds):
        for rounds in all_rounds:
            commands = written_out(head, block, tail, rounds)
            self.assertEqual(count_repeated(memory, head, block, tail, rounds),
                             plain_count(len(memory.sizes), commands), (head, block, tail, rounds))

    def test_plain_count(self):
        drawn = Random(31)
        for _ in range(200):
            sizes = [1] * drawn.randrange(1, 5)
            commands = [drawn_command(drawn, sizes) for _ in range(drawn.randrange(13))]
            self.assertEqual(plain_count(len(sizes), commands), len(plain_possible(Program(Memory(sizes), commands))))

    def test_all_short_blocks(self):
        memory = Memory([1, 1])
        alphabet = [A, B, Flush(0), Flush(1), Fence()]
        for many in range(4):
            for block in product(alphabet, repeat=many):
                self.check_parts(memory, [], block, [A, B], range(13))
                self.check_parts(memory, [A, Flush(0), B], block, [A, Fence(), B, A], range(13))

    def test_drawn_parts(self):
        drawn = Random(32)
        for at in range(400):
            sizes = [drawn.randrange(1, 5) for _ in range(drawn.randrange(1, 7))]
            head, block, tail = drawn_parts(drawn, sizes, 20)
            self.check_parts(Memory(sizes), head, block, tail, range(13))
            if at % 20 == 0:
                self.check_parts(Memory(sizes), head, block, tail, (100, 300))

    def test_count_of_the_program(self):
        drawn = Random(33)
        for _ in range(100):
            sizes = [drawn.randrange(1, 5) for _ in range(drawn.randrange(1, 7))]
            head, block, tail = drawn_parts(drawn, sizes, 16)
            for rounds in range(13):
                found = count_repeated(Memory(sizes), head, block, tail, rounds)
                self.assertEqual(found, count(Program(Memory(sizes), written_out(head, block, tail, rounds))))

    def test_a_polynomial(self):
        drawn = Random(34)
        for _ in range(100):
            sizes = [1] * drawn.randrange(1, 7)
            head, block, tail = drawn_parts(drawn, sizes, 20)
            for start, step in ((2, 1), (5, 1), (2, 10 ** 28), (MOST - 10, 1)):
                values = [count_repeated(Memory(sizes), head, block, tail, start + at * step) for at in range(11)]
                # The differences of an order above the degree are zeros.
                order = len(sizes) + 1
                self.assertEqual(differences(values, order), [0] * (11 - order))

    def test_full_blocks_of_all_lines(self):
        # The stores of a line and its flush stand on both sides of the fence.
        memory = Memory([1] * 6)
        block = [Store(line, 0, 1) for line in range(6)] + [Flush(0), Fence(), Flush(1), Flush(2), A, B, C, Fence()]
        head, tail = [Flush(3), A, Store(3, 0, 2)], [B, Fence(), C]
        self.check_parts(memory, head, block, tail, list(range(13)) + [200])
        # Lines 3 to 5 are never flushed in the block, so a round adds about as many images as its number to the third.
        few, many = [count_repeated(memory, head, block, tail, rounds) for rounds in (10 ** 10 - 1, 10 ** 10)]
        self.assertGreater(many - few, 10 ** 30)
        self.assertLess(many - few, 10 ** 33)


if __name__ == "__main__":
    unittest.main()
