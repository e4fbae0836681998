"""Point 9: programs compared by their possible images, needless and trimmed."""

import unittest
from random import Random

from lateststore.errors import OtherStores
from lateststore.images import Box
from lateststore.likeness import Parted, differ, needless, trimmed
from lateststore.programs import Fence, Flush, Memory, Program, Store, stores
from tests.helper import Checks, bare, chained, drawn_programs, plain_possible, safe, short_programs, with_other_fences


def plain_differ(one, other):
    """The smallest image that is possible in exactly one program, and whether in the first."""
    first, second = plain_possible(one), plain_possible(other)
    parted = sorted(first ^ second)
    return (parted[0], parted[0] in first) if parted else None


def without(program, at):
    return Program(program.memory, program.commands[:at] + program.commands[at + 1:])


def plain_is_needless(program, at):
    return (not isinstance(program.commands[at], Store)
            and plain_possible(program) == plain_possible(without(program, at)))


def plain_trimmed(program):
    for at in reversed(range(len(program.commands))):
        if plain_is_needless(program, at):
            program = without(program, at)
    return program


def fields(found):
    return None if found is None else (found.image, found.is_first)


class PartedTest(Checks):
    def test_fields(self):
        image = [1, -2]
        parted = Parted(image, False)
        image.append(3)
        self.assertEqual(vars(parted), {"image": (1, -2), "is_first": False})
        self.assertIs(type(parted.image), tuple)
        self.same(Parted(is_first=False, image=(1, -2)), parted)

    def test_equality(self):
        for changed in (Parted((1,), False), Parted((2,), True), ((1,), True), Box(0, (1,), (1,)), None):
            self.other(Parted((1,), True), changed)


class DifferTest(Checks):
    def test_equal_programs(self):
        self.assertIsNone(differ(bare(), bare()))
        self.assertIsNone(differ(Program(Memory([3]), []), Program(Memory([3]), [])))

    def test_both_directions(self):
        self.same(differ(bare(), safe()), Parted((0, 1), True))
        self.same(differ(other=bare(), one=safe()), Parted((0, 1), False))
        self.assertIs(type(differ(bare(), safe()).image), tuple)
        self.assertIs(differ(bare(), safe()).is_first, True)

    def test_the_same_images(self):
        late = bare() + Program(Memory([1, 1]), [Flush(0), Flush(1), Fence()])
        self.assertIsNone(differ(bare(), late))
        self.assertIsNone(differ(late, bare()))

    def test_the_smallest_tuple_not_the_first_box(self):
        # The box of store 1 parts first, at (1, 0), but the box of store 2 has a smaller image.
        memory = Memory([1, 1, 1])
        a, b, c = Store(0, 0, 1), Store(1, 0, 1), Store(2, 0, 1)
        one = Program(memory, [b, a, c])
        other = Program(memory, [b, Flush(1), Fence(), a, c])
        self.same(differ(one, other), Parted((0, 0, 1), True))

    def test_each_has_images_of_its_own(self):
        memory = Memory([1, 1, 1])
        a, b, c = Store(0, 0, 1), Store(1, 0, 1), Store(2, 0, 1)
        one = Program(memory, [a, b, Flush(0), Fence(), c])
        other = Program(memory, [a, b, Flush(1), Fence(), c])
        self.same(differ(one, other), Parted((0, 1, 1), False))
        self.same(differ(other, one), Parted((0, 1, 1), True))

    def test_other_stores(self):
        changed = (
            Program(Memory([1, 1]), [Store(1, 0, 1), Store(0, 0, 1)]),
            Program(Memory([1, 1]), [Store(0, 0, 1)]),
            Program(Memory([1, 1]), [Store(0, 0, 1), Store(1, 0, 2)]),
            Program(Memory([1, 1]), [Store(0, 0, 1), Store(1, 0, 1), Store(1, 0, 1)]),
            Program(Memory([1, 2]), [Store(0, 0, 1), Store(1, 0, 1)]),
            Program(Memory([1, 1, 1]), [Store(0, 0, 1), Store(1, 0, 1)]),
        )
        for program in changed:
            self.refused(OtherStores, {}, differ, bare(), program)
            self.refused(OtherStores, {}, differ, program, bare())

    def test_against_the_plain_search(self):
        drawn = Random(4)
        for program in drawn_programs(400, 5):
            other = with_other_fences(program, drawn)
            self.assertEqual(fields(differ(program, other)), plain_differ(program, other))

    def test_short_programs(self):
        by_stores = {}
        for program in short_programs(4):
            by_stores.setdefault(tuple(store.line for store in stores(program)), []).append(program)
        for alike in by_stores.values():
            for program in alike[::7]:
                for other in alike[::5]:
                    self.assertEqual(fields(differ(program, other)), plain_differ(program, other))

    def test_many_images(self):
        one = chained(33)
        other = Program(one.memory, one.commands[:180] + (Flush(2), Fence()) + one.commands[180:])
        self.same(differ(one, other), Parted((0, 0, 0, 0, 0, 31), True))


class NeedlessTest(Checks):
    def test_no_commands(self):
        self.assertEqual(needless(Program(Memory([1]), [])), [])

    def test_nothing_is_needless(self):
        self.assertEqual(needless(safe()), [])
        self.assertEqual(needless(bare()), [])

    def test_flushes_and_fences_that_do_nothing(self):
        program = Program(Memory([1, 1]), [Fence(), Flush(0), Store(0, 0, 1), Store(1, 0, 1), Flush(0), Fence()])
        self.assertEqual(needless(program), [0, 1, 4, 5])

    def test_one_line_alone(self):
        program = Program(Memory([2]), [Store(0, 0, 1), Flush(0), Fence(), Store(0, 1, 1)])
        self.assertEqual(needless(program=program), [1, 2])

    def test_a_fence_before_the_flush(self):
        program = Program(Memory([1, 1]), [Store(0, 0, 1), Fence(), Flush(0), Store(1, 0, 1)])
        self.assertEqual(needless(program), [1, 2])

    def test_lists_are_new(self):
        program = Program(Memory([1]), [Fence(), Fence()])
        found = needless(program)
        self.assertIs(type(found), list)
        found.clear()
        self.assertEqual(needless(program), [0, 1])

    def test_against_the_plain_search(self):
        for program in short_programs(4) + drawn_programs(100, 6):
            found = [at for at in range(len(program.commands)) if plain_is_needless(program, at)]
            self.assertEqual(needless(program), found)

    def test_most_commands(self):
        block = [Store(0, 0, 1), Flush(0), Flush(0), Fence(), Store(1, 0, 1)]
        program = Program(Memory([1, 1]), block * 40)
        self.assertEqual(needless(program), [at for at in range(200) if at % 5 in (1, 2)])
        self.assertEqual(needless(Program(Memory([1] * 6), [Fence()] * 200)), list(range(200)))


class TrimmedTest(Checks):
    def test_of_two_flushes_the_first_is_left(self):
        block = [Store(0, 0, 1), Flush(0), Flush(1), Flush(0), Fence(), Store(1, 0, 1)]
        found = trimmed(program=Program(Memory([1, 1]), block))
        self.same(found, safe())

    def test_of_two_fences_the_first_is_left(self):
        one = Program(Memory([1, 1]), [Store(0, 0, 1), Flush(0), Fence(), Store(1, 0, 1)])
        two = Program(Memory([1, 1]), [Store(0, 0, 1), Flush(0), Fence(), Fence(), Store(1, 0, 1), Fence()])
        self.same(trimmed(two), one)

    def test_nothing_to_remove(self):
        for program in (safe(), bare(), Program(Memory([1]), [])):
            self.same(trimmed(program), program)

    def test_the_argument_stays(self):
        program = Program(Memory([1]), [Store(0, 0, 1), Flush(0), Fence()])
        self.same(trimmed(program), Program(Memory([1]), [Store(0, 0, 1)]))
        self.assertEqual(len(program.commands), 3)

    def test_against_the_plain_search(self):
        for program in short_programs(4) + drawn_programs(100, 7):
            found = trimmed(program)
            self.same(found, plain_trimmed(program))
            self.assertEqual(needless(found), [])

    def test_most_commands(self):
        block = [Store(0, 0, 1), Flush(0), Flush(0), Fence(), Store(1, 0, 1)]
        program = Program(Memory([1, 1]), block * 40)
        self.assertEqual(trimmed(program).commands, tuple([Store(0, 0, 1), Flush(0), Fence(), Store(1, 0, 1)] * 40))
        self.assertEqual(trimmed(Program(Memory([1] * 6), [Fence()] * 200)).commands, ())


if __name__ == "__main__":
    unittest.main()
