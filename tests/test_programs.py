"""Points 2 to 5: conventions, memories, commands, programs, made and sure."""

import unittest

from lateststore.errors import BadCount, NoLine, NoTime, NoWord, OtherMemory
from lateststore.programs import Fence, Flush, Memory, Program, Store, made, stores, sure
from tests.helper import Checks, chained, drawn_programs, plain_made, plain_sure, safe, short_programs


class MemoryTest(Checks):
    def test_sizes_is_a_tuple(self):
        self.assertEqual(Memory([1, 2, 3, 4]).sizes, (1, 2, 3, 4))
        self.assertIs(type(Memory([1]).sizes), tuple)
        self.assertEqual(Memory((4,)).sizes, (4,))
        self.assertEqual(Memory(sizes=[2]).sizes, (2,))

    def test_lines(self):
        self.assertEqual(Memory([1] * 6).sizes, (1,) * 6)
        self.refused(BadCount, {"what": "lines", "count": 0}, Memory, [])
        self.refused(BadCount, {"what": "lines", "count": 7}, Memory, [1] * 7)
        self.refused(BadCount, {"what": "lines", "count": 300}, Memory, (1,) * 300)

    def test_words(self):
        for size in (0, 5, -1, 10 ** 30):
            self.refused(BadCount, {"what": "words", "count": size}, Memory, [4, size, 1])

    def test_first_bad_size(self):
        self.refused(BadCount, {"what": "words", "count": 0}, Memory, [1, 0, 5])
        self.refused(BadCount, {"what": "words", "count": 5}, Memory, [1, 5, 0])

    def test_lines_come_before_words(self):
        self.refused(BadCount, {"what": "lines", "count": 7}, Memory, [9, 0, 1, 1, 1, 1, 1])

    def test_later_changes_have_no_effect(self):
        sizes = [1, 2]
        memory = Memory(sizes)
        sizes.append(3)
        sizes[0] = 4
        self.assertEqual(memory.sizes, (1, 2))

    def test_equality(self):
        self.same(Memory([1, 2]), Memory((1, 2)))
        self.other(Memory([1, 2]), Memory([2, 1]))
        self.other(Memory([1, 2]), Memory([1, 2, 1]))
        self.other(Memory([1]), (1,))
        self.other(Memory([1]), None)


class CommandsTest(Checks):
    def test_fields(self):
        self.assertEqual(vars(Store(1, 2, 3)), {"line": 1, "word": 2, "number": 3})
        self.assertEqual(vars(Store(number=1, word=2, line=3)), {"line": 3, "word": 2, "number": 1})
        self.assertEqual(vars(Flush(4)), {"line": 4})
        self.assertEqual(vars(Flush(line=4)), {"line": 4})
        self.assertEqual(vars(Fence()), {})

    def test_creating_checks_nothing(self):
        self.assertEqual(vars(Store(-1, 99, -10 ** 40)), {"line": -1, "word": 99, "number": -10 ** 40})
        self.assertEqual(Flush(-7).line, -7)

    def test_equality(self):
        self.same(Store(1, 2, 3), Store(1, 2, 3))
        for changed in (Store(0, 2, 3), Store(1, 0, 3), Store(1, 2, 0), (1, 2, 3), None, Flush(1), Fence()):
            self.other(Store(1, 2, 3), changed)
        self.same(Flush(1), Flush(1))
        for changed in (Flush(0), Fence(), 1, (1,)):
            self.other(Flush(1), changed)
        self.same(Fence(), Fence())
        for changed in (None, (), Memory([1])):
            self.other(Fence(), changed)


class ProgramTest(Checks):
    def test_fields(self):
        commands = [Store(0, 1, 5), Flush(0), Fence()]
        program = Program(Memory([2]), commands)
        self.assertEqual(program.memory, Memory([2]))
        self.assertEqual(program.commands, (Store(0, 1, 5), Flush(0), Fence()))
        self.assertIs(type(program.commands), tuple)
        commands.append(Fence())
        self.assertEqual(len(program.commands), 3)
        self.assertEqual(Program(commands=(), memory=Memory([1])).commands, ())

    def test_how_many(self):
        memory = Memory([1])
        self.assertEqual(len(Program(memory, [Fence()] * 200).commands), 200)
        self.refused(BadCount, {"what": "commands", "count": 201}, Program, memory, [Fence()] * 201)

    def test_the_number_comes_before_the_parts(self):
        self.refused(BadCount, {"what": "commands", "count": 201}, Program, Memory([1]), [Flush(3)] * 201)
        self.refused(NoLine, {"line": 3}, Program, Memory([1]), [Flush(3)] * 200)

    def test_lines(self):
        memory = Memory([1, 2])
        for line in (-1, 2, 10 ** 20):
            self.refused(NoLine, {"line": line}, Program, memory, [Flush(line)])
            self.refused(NoLine, {"line": line}, Program, memory, [Store(line, 0, 0)])

    def test_words(self):
        memory = Memory([1, 4])
        self.assertEqual(len(Program(memory, [Store(0, 0, 0), Store(1, 3, 0)]).commands), 2)
        for line, word in ((0, 1), (0, -1), (1, 4), (1, -1), (1, 10 ** 20)):
            self.refused(NoWord, {"word": word}, Program, memory, [Store(line, word, 0)])

    def test_the_line_comes_before_the_word(self):
        self.refused(NoLine, {"line": 1}, Program, Memory([1]), [Store(1, 1, 0)])

    def test_the_first_command_counts(self):
        memory = Memory([1])
        self.refused(NoWord, {"word": 1}, Program, memory, [Fence(), Store(0, 1, 0), Flush(5), Store(0, 2, 0)])
        self.refused(NoLine, {"line": 5}, Program, memory, [Fence(), Flush(5), Store(0, 1, 0)])

    def test_equality(self):
        memory = Memory([1, 1])
        one = Program(memory, [Store(0, 0, 1), Fence()])
        self.same(one, Program(Memory([1, 1]), (Store(0, 0, 1), Fence())))
        self.other(one, Program(memory, [Store(0, 0, 1)]))
        self.other(one, Program(memory, [Fence(), Store(0, 0, 1)]))
        self.other(one, Program(memory, [Store(0, 0, 2), Fence()]))
        self.other(one, Program(Memory([1, 2]), [Store(0, 0, 1), Fence()]))
        self.other(one, (Store(0, 0, 1), Fence()))

    def test_sum(self):
        memory = Memory([1, 1])
        one, other = Program(memory, [Store(0, 0, 1), Flush(0)]), Program(Memory([1, 1]), [Fence(), Store(1, 0, 2)])
        self.same(one + other, Program(memory, [Store(0, 0, 1), Flush(0), Fence(), Store(1, 0, 2)]))
        self.same(other + one, Program(memory, [Fence(), Store(1, 0, 2), Store(0, 0, 1), Flush(0)]))
        self.same(one + Program(memory, []), one)
        self.assertEqual((len(one.commands), len(other.commands)), (2, 2))

    def test_sum_of_other_memories(self):
        one = Program(Memory([1]), [Fence()] * 200)
        self.refused(OtherMemory, {}, lambda: one + Program(Memory([2]), [Fence()] * 200))
        self.refused(OtherMemory, {}, lambda: one + Program(Memory([1, 1]), []))

    def test_sum_of_too_many(self):
        one, memory = Program(Memory([1]), [Fence()] * 150), Memory([1])
        self.assertEqual(len((one + Program(memory, [Fence()] * 50)).commands), 200)
        self.refused(BadCount, {"what": "commands", "count": 201}, lambda: one + Program(memory, [Fence()] * 51))

    def test_stores(self):
        program = Program(Memory([1, 2]), [Flush(0), Store(1, 1, -7), Fence(), Store(0, 0, 2), Store(1, 1, -7)])
        found = stores(program)
        self.assertIs(type(found), list)
        self.assertEqual(found, [Store(1, 1, -7), Store(0, 0, 2), Store(1, 1, -7)])
        found.clear()
        self.assertEqual(len(stores(program=program)), 3)
        self.assertEqual(stores(Program(Memory([1]), [Fence(), Flush(0)])), [])
        self.assertEqual(stores(Program(Memory([1]), [])), [])


class TimesTest(Checks):
    def test_made(self):
        program = Program(Memory([1, 1]), [Store(1, 0, 1), Flush(1), Store(0, 0, 1), Store(1, 0, 1)])
        self.assertEqual([made(program, time) for time in range(5)], [(0, 0), (0, 1), (0, 1), (1, 1), (1, 2)])
        self.assertIs(type(made(program=program, time=2)), tuple)

    def test_sure_needs_the_fence(self):
        self.assertEqual([sure(safe(), time) for time in range(5)], [(0, 0), (0, 0), (0, 0), (1, 0), (1, 0)])
        self.assertIs(type(sure(program=safe(), time=2)), tuple)

    def test_a_fence_without_a_flush(self):
        program = Program(Memory([1]), [Store(0, 0, 1), Fence(), Flush(0), Store(0, 0, 2)])
        self.assertEqual([sure(program, time) for time in range(5)], [(0,)] * 5)

    def test_a_flush_covers_only_earlier_stores_of_its_line(self):
        program = Program(Memory([1, 1]), [Store(0, 0, 1), Store(1, 0, 1), Flush(0), Store(0, 0, 2), Fence(), Fence()])
        self.assertEqual(sure(program, 5), (1, 0))
        self.assertEqual(sure(program, 6), (1, 0))

    def test_a_flush_before_the_stores(self):
        self.assertEqual(sure(Program(Memory([1]), [Flush(0), Store(0, 0, 1), Fence()]), 3), (0,))

    def test_an_unfenced_flush_keeps_what_was_sure(self):
        program = Program(Memory([1]), [Store(0, 0, 1), Flush(0), Fence(), Store(0, 0, 1), Flush(0), Flush(0)])
        self.assertEqual(sure(program, 6), (1,))
        self.assertEqual(sure(program + Program(Memory([1]), [Fence()]), 7), (2,))

    def test_times(self):
        for program in (safe(), Program(Memory([2]), [])):
            last = len(program.commands)
            for time in (-1, last + 1, 10 ** 30, -10 ** 30):
                self.refused(NoTime, {"time": time}, made, program, time)
                self.refused(NoTime, {"time": time}, sure, program, time)
            self.assertEqual(made(program, 0), (0,) * len(program.memory.sizes))
            self.assertEqual(sure(program, 0), (0,) * len(program.memory.sizes))
            self.assertEqual(sum(made(program, last)), len(stores(program)))

    def test_against_the_plain_search(self):
        for program in short_programs(4) + drawn_programs(200, 1):
            for time in range(len(program.commands) + 1):
                self.assertEqual(made(program, time), plain_made(program, time))
                self.assertEqual(sure(program, time), plain_sure(program, time))

    def test_many_commands(self):
        program = chained(33)
        self.assertEqual(made(program, 198), (33,) * 6)
        self.assertEqual(sure(program, 198), (0,) * 6)


if __name__ == "__main__":
    unittest.main()
