"""Point 12: Is, find and broken."""

import unittest
from random import Random

from lateststore.errors import NoLine, NoWord
from lateststore.programs import Fence, Flush, Memory, Program, Store
from lateststore.rules import Is, broken, find
from tests.helper import (Checks, bare, chained, drawn_conditions, drawn_programs, meets, plain_broken, plain_contents,
                          plain_order, safe, short_programs)


def plain_find(program, conditions):
    for image in plain_order(program):
        if meets(plain_contents(program, image), conditions):
            return image
    return None


class IsTest(Checks):
    def test_fields(self):
        numbers = [3, -1, 3, 10 ** 40, -1, 0]
        condition = Is(1, 2, numbers)
        numbers.append(5)
        self.assertEqual(vars(condition), {"line": 1, "word": 2, "numbers": (-1, 0, 3, 10 ** 40)})
        self.assertIs(type(condition.numbers), tuple)
        self.same(Is(numbers=(10 ** 40, 3, 0, -1), word=2, line=1), condition)

    def test_the_argument_stays(self):
        numbers = [3, 1, 3]
        Is(0, 0, numbers)
        self.assertEqual(numbers, [3, 1, 3])

    def test_creating_checks_nothing(self):
        self.assertEqual(vars(Is(-1, 99, [0])), {"line": -1, "word": 99, "numbers": (0,)})

    def test_equality(self):
        for changed in (Is(0, 2, [3]), Is(1, 0, [3]), Is(1, 2, [4]), Is(1, 2, [3, 4]), Store(1, 2, 3), (1, 2, (3,)), None):
            self.other(Is(1, 2, [3]), changed)


class FindTest(Checks):
    def test_no_conditions(self):
        self.assertEqual(find(bare(), []), (0, 0))
        self.assertEqual(find(Program(Memory([1, 2, 3]), []), ()), (0, 0, 0))

    def test_words_that_were_never_stored(self):
        self.assertEqual(find(bare(), [Is(0, 0, [0]), Is(1, 0, [0])]), (0, 0))
        self.assertIsNone(find(Program(Memory([2]), [Store(0, 0, 1)]), [Is(0, 1, [1])]))

    def test_several_conditions(self):
        self.assertEqual(find(bare(), [Is(0, 0, [1]), Is(1, 0, [1])]), (1, 1))
        self.assertEqual(find(conditions=(Is(0, 0, [1]),), program=bare()), (1, 0))
        self.assertIsNone(find(bare(), [Is(0, 0, [1]), Is(0, 0, [0])]))
        self.assertEqual(find(bare(), [Is(0, 0, [0, 1]), Is(0, 0, [1, 2])]), (1, 0))
        self.assertIs(type(find(bare(), [Is(1, 0, [1])])), tuple)

    def test_only_possible_images(self):
        self.assertEqual(find(bare(), [Is(0, 0, [0]), Is(1, 0, [1])]), (0, 1))
        self.assertIsNone(find(safe(), [Is(0, 0, [0]), Is(1, 0, [1])]))

    def test_boxes_come_before_the_tuples(self):
        # (1, 0) lies in an earlier box than the smaller tuple (0, 1).
        program = Program(Memory([1, 1]), [Store(0, 0, 5), Store(1, 0, 5), Store(0, 0, 6)])
        self.assertEqual(find(program, [Is(0, 0, [5])]), (1, 0))
        self.assertEqual(find(program, [Is(1, 0, [5])]), (0, 1))
        self.assertEqual(find(program, [Is(0, 0, [6])]), (2, 0))

    def test_a_number_that_comes_back(self):
        program = Program(Memory([1, 1]), [Store(0, 0, 7), Store(0, 0, 8), Flush(0), Fence(), Store(1, 0, 1), Store(0, 0, 7)])
        self.assertEqual(find(program, [Is(0, 0, [7])]), (1, 0))
        self.assertEqual(find(program, [Is(0, 0, [7]), Is(1, 0, [1])]), (3, 1))

    def test_wrong_parts(self):
        program = Program(Memory([1, 4]), [])
        for line in (-1, 2, 10 ** 20):
            self.refused(NoLine, {"line": line}, find, program, [Is(line, 0, [0])])
        for line, word in ((0, 1), (0, -1), (1, 4), (1, -1)):
            self.refused(NoWord, {"word": word}, find, program, [Is(line, word, [0])])
        self.refused(NoLine, {"line": 2}, find, program, [Is(2, 9, [0])])
        self.refused(NoWord, {"word": 1}, find, program, [Is(0, 0, [1]), Is(0, 1, [0]), Is(9, 0, [0])])
        self.refused(NoLine, {"line": 9}, find, program, [Is(0, 0, [1]), Is(9, 0, [0]), Is(0, 1, [0])])

    def test_against_the_plain_search(self):
        drawn = Random(12)
        for program in short_programs(4) + drawn_programs(400, 13):
            conditions = drawn_conditions(drawn, program.memory.sizes, 4)
            self.assertEqual(find(program, conditions), plain_find(program, conditions))

    def test_many_images(self):
        program = chained(33)
        self.assertEqual(find(program, [Is(line, 0, [20 + line]) for line in range(6)]), (21, 22, 23, 24, 25, 26))
        self.assertEqual(find(program, [Is(line, 0, [32]) for line in range(6)]), (33,) * 6)
        self.assertIsNone(find(program, [Is(line, 0, [33 if line == 5 else 32]) for line in range(6)]))

    def test_most_commands(self):
        program = Program(Memory([1] * 6), [Store(at % 6, 0, at + 1) for at in range(200)])
        self.assertEqual(find(program, [Is(5, 0, [198]), Is(0, 0, [199])]), (34, 0, 0, 0, 0, 33))
        self.assertIsNone(find(program, [Is(0, 0, [200])]))


class BrokenTest(Checks):
    def test_no_conditions(self):
        self.assertIsNone(broken(bare(), [], []))
        self.assertIsNone(broken(bare(), [Is(0, 0, [1])], []))
        self.assertEqual(broken(bare(), [], [Is(0, 0, [1])]), (0, 0))
        self.assertEqual(broken(bare(), (), (Is(0, 0, [0]),)), (1, 0))

    def test_not_all_wanted(self):
        # One condition that is not met is enough, of whatever line.
        both = [Is(0, 0, [0]), Is(1, 0, [0])]
        self.assertEqual(broken(bare(), [], both), (1, 0))
        self.assertEqual(broken(bare(), [Is(1, 0, [1])], both), (0, 1))
        self.assertEqual(broken(bare(), [Is(0, 0, [1])], [Is(0, 0, [1]), Is(1, 0, [0])]), (1, 1))
        self.assertEqual(broken(program=bare(), wanted=both, given=[Is(0, 0, [1])]), (1, 0))
        self.assertEqual(broken(bare(), [], [Is(0, 0, [0, 1]), Is(0, 0, [1, 2])]), (0, 0))

    def test_the_smallest_of_several_lines(self):
        # In the last box (1, 0, 1) is the smallest image with a wrong line 0, and (0, 1, 1) with a wrong line 1.
        program = Program(Memory([1, 1, 1]), [Store(0, 0, 1), Store(1, 0, 1), Store(2, 0, 1)])
        wanted = [Is(0, 0, [0]), Is(1, 0, [0])]
        self.assertEqual(broken(program, [Is(2, 0, [1])], wanted), (0, 1, 1))

    def test_given_and_wanted_contradict(self):
        self.assertIsNone(broken(bare(), [Is(0, 0, [0]), Is(0, 0, [1])], [Is(1, 0, [1])]))
        self.assertEqual(broken(bare(), [Is(0, 0, [1])], [Is(0, 0, [0])]), (1, 0))
        self.assertIsNone(broken(bare(), [Is(0, 0, [1])], [Is(0, 0, [1])]))

    def test_kinds(self):
        self.assertIs(type(broken(bare(), [], [Is(0, 0, [1])])), tuple)

    def test_wrong_parts(self):
        program = Program(Memory([1, 4]), [])
        self.refused(NoLine, {"line": 2}, broken, program, [Is(2, 9, [0])], [])
        self.refused(NoWord, {"word": 4}, broken, program, [], [Is(1, 4, [0]), Is(7, 0, [0])])
        self.refused(NoWord, {"word": 1}, broken, program, [Is(1, 0, [0]), Is(0, 1, [0])], [Is(7, 0, [0])])
        self.refused(NoLine, {"line": 7}, broken, program, [Is(1, 0, [0])], [Is(7, 0, [0]), Is(0, 1, [0])])

    def test_against_the_plain_search(self):
        drawn = Random(14)
        for program in short_programs(4) + drawn_programs(600, 15):
            given = drawn_conditions(drawn, program.memory.sizes, 3)
            wanted = drawn_conditions(drawn, program.memory.sizes, 3)
            self.assertEqual(broken(program, given, wanted), plain_broken(program, given, wanted))

    def test_many_images(self):
        program = chained(33)
        low = [Is(line, 0, range(33)) for line in range(6)]
        self.assertEqual(broken(program, [], low), None)
        given = [Is(line, 0, [10]) for line in range(1, 6)]
        self.assertEqual(broken(program, given, [Is(0, 0, range(25))]), (26, 11, 11, 11, 11, 11))

    def test_most_commands(self):
        block = [Store(0, 0, 1), Flush(0), Fence(), Store(1, 0, 1), Store(0, 0, 0), Flush(0), Fence(), Store(1, 0, 2)]
        program = Program(Memory([1, 1]), block * 25)
        self.assertIsNone(broken(program, [Is(1, 0, [0])], [Is(0, 0, [0, 1])]))
        self.assertEqual(broken(program, [Is(1, 0, [2]), Is(0, 0, [1])], [Is(0, 0, [0])]), (3, 2))


if __name__ == "__main__":
    unittest.main()
