"""Points 13 and 14: Copy, Step, Recovery and settle, check with Failed."""

import sys
import unittest
from random import Random

from lateststore.errors import BadCount, NoLine, NoWord, OtherMemory, Wide
from lateststore.images import count
from lateststore.programs import Fence, Flush, Memory, Program, Store
from lateststore.recoveries import Copy, Failed, Recovery, Step, check, settle
from lateststore.rules import Is
from tests.helper import Checks, bare, chained, drawn_programs, plain_contents, plain_order, safe


def plain_run(recovery, words):
    """The contents at the end, and the stores that the moves make."""
    now = {(line, word): number for line, row in enumerate(words) for word, number in enumerate(row)}
    made = []
    for step in recovery.steps:
        if all(now[condition.line, condition.word] in condition.numbers for condition in step.conditions):
            for move in step.moves:
                number = move.number if isinstance(move, Store) else now[move.from_line, move.from_word]
                now[move.line, move.word] = number
                made.append(Store(move.line, move.word, number))
    return shaped(recovery.memory, now), made


def shaped(memory, now):
    return tuple(tuple(now[line, word] for word in range(size)) for line, size in enumerate(memory.sizes))


def plain_on_top(memory, words, made, image):
    now = {(line, word): number for line, row in enumerate(words) for word, number in enumerate(row)}
    for line, many in enumerate(image):
        for store in [store for store in made if store.line == line][:many]:
            now[line, store.word] = store.number
    return shaped(memory, now)


def plain_ends(program, recovery):
    """All ends in their order, as triples of the image, the image of an own cut or None, and the contents."""
    for image in plain_order(program):
        words = plain_contents(program, image)
        end, made = plain_run(recovery, words)
        yield image, None, end
        for second in plain_order(Program(program.memory, made)):
            left = plain_on_top(program.memory, words, made, second)
            yield image, second, plain_run(recovery, left)[0]


def plain_check(program, recovery, good):
    for image, second, words in plain_ends(program, recovery):
        if words not in good:
            return image, second, words
    return None


def calls_of(action, *given):
    """How many functions and methods a call runs in all: a measure of its work that no other load changes."""
    many = 0

    def note(_, event, __):
        nonlocal many
        many += event in ("call", "c_call")

    sys.setprofile(note)
    try:
        action(*given)
    finally:
        sys.setprofile(None)
    return many


def fields(found):
    return None if found is None else (found.image, found.second, found.words)


def drawn_recovery(drawn, memory):
    sizes = memory.sizes
    places = [(line, word) for line, size in enumerate(sizes) for word in range(size)]
    steps = []
    left = 6
    for _ in range(drawn.randrange(6)):
        conditions = [Is(*drawn.choice(places), drawn.choices(range(-2, 3), k=3)) for _ in range(drawn.randrange(3))]
        moves = []
        for _ in range(drawn.randrange(min(left, 3) + 1)):
            left -= 1
            if drawn.randrange(2):
                moves.append(Store(*drawn.choice(places), drawn.randrange(-2, 3)))
            else:
                moves.append(Copy(*drawn.choice(places), *drawn.choice(places)))
        steps.append(Step(conditions, moves))
    return Recovery(memory, steps)


class PartsTest(Checks):
    def test_copy(self):
        self.assertEqual(vars(Copy(1, 2, 3, 4)), {"line": 1, "word": 2, "from_line": 3, "from_word": 4})
        self.same(Copy(from_word=4, from_line=3, word=2, line=1), Copy(1, 2, 3, 4))
        for changed in (Copy(0, 2, 3, 4), Copy(1, 0, 3, 4), Copy(1, 2, 0, 4), Copy(1, 2, 3, 0), Store(1, 2, 3), None):
            self.other(Copy(1, 2, 3, 4), changed)
        self.assertEqual(Copy(-1, 99, -5, 10 ** 30).from_word, 10 ** 30)

    def test_step(self):
        conditions, moves = [Is(0, 0, [1])], [Store(0, 0, 2), Copy(0, 0, 0, 0)]
        step = Step(conditions, moves)
        conditions.clear()
        moves.pop()
        self.assertEqual(vars(step), {"conditions": (Is(0, 0, [1]),), "moves": (Store(0, 0, 2), Copy(0, 0, 0, 0))})
        self.assertEqual((type(step.conditions), type(step.moves)), (tuple, tuple))
        self.same(Step(moves=(Store(0, 0, 2), Copy(0, 0, 0, 0)), conditions=(Is(0, 0, [1]),)), step)
        for changed in (Step([], step.moves), Step(step.conditions, []), (step.conditions, step.moves), None):
            self.other(step, changed)

    def test_recovery(self):
        moves = [Store(0, 0, 2)]
        steps = [Step([], moves), Step([Is(0, 0, [1])], [])]
        recovery = Recovery(Memory([1]), steps)
        moves.clear()
        steps.clear()
        wanted = (Step([], [Store(0, 0, 2)]), Step([Is(0, 0, [1])], []))
        self.assertEqual(vars(recovery), {"memory": Memory([1]), "steps": wanted})
        self.assertIs(type(recovery.steps), tuple)
        self.same(Recovery(steps=wanted, memory=Memory([1])), recovery)
        for changed in (Recovery(Memory([2]), wanted), Recovery(Memory([1]), wanted[:1]),
                        Recovery(Memory([1]), wanted[::-1]), Program(Memory([1]), []), None):
            self.other(recovery, changed)

    def test_failed(self):
        image, second, words = [1], [0], [[1, 2], (3,)]
        found = Failed(image, second, words)
        image[0] = second[0] = words[0][0] = 9
        self.assertEqual(vars(found), {"image": (1,), "second": (0,), "words": ((1, 2), (3,))})
        self.assertEqual([type(part) for part in (found.image, found.second, found.words, found.words[0])], [tuple] * 4)
        self.same(Failed(words=((1, 2), (3,)), second=(0,), image=(1,)), found)
        self.assertIsNone(Failed([1], None, []).second)
        for changed in (Failed([0], [0], found.words), Failed([1], None, found.words), Failed([1], [1], found.words),
                        Failed([1], [0], [[1, 2], [4]]), ((1,), (0,), found.words), None):
            self.other(found, changed)
        self.same(Failed([1], None, []), Failed((1,), None, ()))


class RecoveryTest(Checks):
    def test_how_many_steps(self):
        memory = Memory([1])
        self.assertEqual(len(Recovery(memory, [Step([], [])] * 12).steps), 12)
        self.assertEqual(Recovery(memory, []).steps, ())
        self.refused(BadCount, {"what": "steps", "count": 13}, Recovery, memory, [Step([], [])] * 13)

    def test_how_many_moves(self):
        memory = Memory([1])
        eight, one = Step([], [Store(0, 0, 1)] * 8), Step([], [Copy(0, 0, 0, 0)])
        self.assertEqual(len(Recovery(memory, [eight]).steps), 1)
        self.assertEqual(len(Recovery(memory, [one] * 8).steps), 8)
        self.refused(BadCount, {"what": "moves", "count": 9}, Recovery, memory, [eight, one])
        self.refused(BadCount, {"what": "moves", "count": 9}, Recovery, memory, [one] * 9)
        self.refused(BadCount, {"what": "moves", "count": 16}, Recovery, memory, [eight, eight])

    def test_which_comes_first(self):
        memory = Memory([1])
        bad = Step([Is(5, 0, [0])], [Store(6, 0, 0)])
        self.refused(BadCount, {"what": "steps", "count": 13}, Recovery, memory, [bad] * 13)
        self.refused(BadCount, {"what": "moves", "count": 9}, Recovery, memory, [bad] * 9)
        self.refused(NoLine, {"line": 5}, Recovery, memory, [bad] * 8)

    def test_step_by_step(self):
        memory = Memory([1, 2])
        good = Step([Is(1, 1, [0])], [Copy(0, 0, 1, 1), Store(1, 1, 5)])
        self.refused(NoWord, {"word": 2}, Recovery, memory, [good, Step([], [Store(1, 2, 0)]), Step([Is(7, 0, [0])], [])])
        # Conditions come before moves, and the first wrong part of each counts.
        self.refused(NoLine, {"line": 7}, Recovery, memory, [Step([Is(0, 0, [0]), Is(7, 0, [0])], [Store(8, 0, 0)])])
        self.refused(NoWord, {"word": -1}, Recovery, memory, [Step([Is(0, -1, [0]), Is(7, 0, [0])], [Store(8, 0, 0)])])
        self.refused(NoLine, {"line": 8}, Recovery, memory, [good, Step([], [Store(8, 0, 0), Store(0, 1, 0)])])

    def test_the_target_comes_before_the_source(self):
        memory = Memory([1, 2])
        self.refused(NoWord, {"word": 1}, Recovery, memory, [Step([], [Copy(0, 1, 9, 0)])])
        self.refused(NoLine, {"line": 2}, Recovery, memory, [Step([], [Copy(2, 5, 9, 0)])])
        self.refused(NoLine, {"line": 9}, Recovery, memory, [Step([], [Copy(1, 1, 9, 7)])])
        self.refused(NoWord, {"word": 7}, Recovery, memory, [Step([], [Copy(1, 1, 0, 7)])])
        self.refused(NoLine, {"line": -1}, Recovery, memory, [Step([], [Copy(0, 0, -1, 0)])])


class SettleTest(Checks):
    def test_no_steps(self):
        found = settle(Recovery(Memory([2, 1]), []), [[1, 2], [3]])
        self.assertEqual(found, ((1, 2), (3,)))
        self.assertEqual([type(found)] + [type(row) for row in found], [tuple] * 3)

    def test_the_argument_stays(self):
        words = [[1], [2]]
        self.assertEqual(settle(words=words, recovery=Recovery(Memory([1, 1]), [Step([], [Store(0, 0, 5)])])), ((5,), (2,)))
        self.assertEqual(words, [[1], [2]])

    def test_conditions(self):
        recovery = Recovery(Memory([2]), [Step([Is(0, 0, [1, 2]), Is(0, 1, [3])], [Store(0, 0, 9)])])
        self.assertEqual(settle(recovery, [[2, 3]]), ((9, 3),))
        self.assertEqual(settle(recovery, [[2, 4]]), ((2, 4),))
        self.assertEqual(settle(recovery, [[3, 3]]), ((3, 3),))

    def test_each_step_looks_at_the_words_as_they_are_then(self):
        steps = [Step([Is(0, 0, [1])], [Store(0, 0, 2), Store(0, 1, 7)]), Step([Is(0, 0, [2])], [Store(0, 0, 3)]),
                 Step([Is(0, 0, [1])], [Store(0, 1, 8)])]
        self.assertEqual(settle(Recovery(Memory([2]), steps), ((1, 0),)), ((3, 7),))
        self.assertEqual(settle(Recovery(Memory([2]), steps), ((0, 0),)), ((0, 0),))

    def test_moves_are_done_in_order(self):
        swap = [Copy(0, 2, 0, 0), Copy(0, 0, 1, 0), Copy(1, 0, 0, 2), Copy(0, 2, 0, 2)]
        self.assertEqual(settle(Recovery(Memory([3, 1]), [Step([], swap)]), [[5, 0, 0], [6]]), ((6, 0, 5), (5,)))

    def test_numbers_of_any_size(self):
        recovery = Recovery(Memory([2]), [Step([Is(0, 0, [-10 ** 40])], [Copy(0, 1, 0, 0)])])
        self.assertEqual(settle(recovery, [(-10 ** 40, 1)]), ((-10 ** 40, -10 ** 40),))

    def test_another_shape(self):
        recovery = Recovery(Memory([2, 1]), [])
        for words in ((), ((0, 0),), ((0,), (0, 0)), ((0, 0), (0,), (0,)), ((0, 0, 0), (0,)), [[0, 0], []]):
            self.refused(OtherMemory, {}, settle, recovery, words)

    def test_against_a_plain_run(self):
        drawn = Random(16)
        for _ in range(400):
            memory = Memory([drawn.randrange(1, 5) for _ in range(drawn.randrange(1, 4))])
            recovery = drawn_recovery(drawn, memory)
            words = [[drawn.randrange(-2, 3) for _ in range(size)] for size in memory.sizes]
            self.assertEqual(settle(recovery, words), plain_run(recovery, words)[0])


class CheckTest(Checks):
    def test_no_steps(self):
        nothing = Recovery(Memory([1, 1]), [])
        good = [[[0], [0]], [[1], [0]], ((1,), (1,))]
        self.assertIsNone(check(safe(), nothing, good))
        self.same(check(bare(), nothing, good), Failed((0, 1), None, ((0,), (1,))))
        self.same(check(good=good[1:], recovery=nothing, program=safe()), Failed((0, 0), None, ((0,), (0,))))

    def test_nothing_is_good(self):
        recovery = Recovery(Memory([1, 1]), [Step([], [Store(0, 0, 5)])])
        self.same(check(bare(), recovery, []), Failed((0, 0), None, ((5,), (0,))))

    def test_no_commands(self):
        program = Program(Memory([2]), [])
        recovery = Recovery(Memory([2]), [Step([], [Store(0, 0, 1), Store(0, 1, 2)])])
        self.assertIsNone(check(program, recovery, [[[1, 2]]]))

    def test_the_first_image_in_the_order_of_the_boxes(self):
        # (1, 0) comes before the smaller tuple (0, 1).
        nothing = Recovery(Memory([1, 1]), [])
        self.same(check(bare(), nothing, [((0,), (0,))]), Failed((1, 0), None, ((1,), (0,))))

    def test_a_cut_of_the_recovery(self):
        # If the first move alone becomes durable, then the second run does nothing.
        swap = Recovery(Memory([1, 1]), [Step([Is(0, 0, [1])], [Store(0, 0, 2), Store(1, 0, 1)])])
        program = Program(Memory([1, 1]), [Store(0, 0, 1)])
        good = [((0,), (0,)), ((2,), (1,))]
        self.same(check(program, swap, good), Failed((1, 0), (1, 0), ((2,), (0,))))
        self.assertIs(type(check(program, swap, good).second), tuple)
        self.assertIsNone(check(program, swap, good + [((2,), (0,))]))

    def test_moves_of_one_line_become_durable_in_their_order(self):
        # If the mark is removed last, then a recovery that was cut does all of it again.
        memory = Memory([2])
        program = Program(memory, [Store(0, 0, 1), Store(0, 1, 4)])
        mark, remove, mend = Is(0, 0, [1]), Store(0, 0, 0), Store(0, 1, 5)
        good = [((0, 0),), ((0, 5),)]
        self.assertIsNone(check(program, Recovery(memory, [Step([mark], [mend, remove])]), good))
        self.same(check(program, Recovery(memory, [Step([mark], [remove, mend])]), good), Failed((2,), (1,), ((0, 4),)))

    def test_a_second_run_meets_other_conditions(self):
        steps = [Step([Is(0, 0, [1])], [Store(0, 0, 2), Store(1, 0, 1)]), Step([Is(1, 0, [0])], [Store(2, 0, 9)])]
        recovery = Recovery(Memory([1, 1, 1]), steps)
        program = Program(Memory([1, 1, 1]), [Store(1, 0, 3), Flush(1), Fence(), Store(0, 0, 1)])
        good = [((0,), (0,), (9,)), ((0,), (3,), (0,)), ((2,), (1,), (0,))]
        self.same(check(program, recovery, good), Failed((1, 1, 0), (1, 0, 0), ((2,), (3,), (0,))))

    def test_an_uncut_failure_comes_before_a_cut_one(self):
        swap = Recovery(Memory([1, 1]), [Step([Is(0, 0, [1])], [Store(0, 0, 2), Store(1, 0, 1)])])
        program = Program(Memory([1, 1]), [Store(0, 0, 1)])
        self.same(check(program, swap, [((0,), (0,))]), Failed((1, 0), None, ((2,), (1,))))

    def test_copies_store_what_they_read(self):
        # A copy of a word that the same run has written, and that a cut may lose.
        recovery = Recovery(Memory([1, 1]), [Step([Is(0, 0, [0])], [Store(0, 0, 7), Copy(1, 0, 0, 0)])])
        program = Program(Memory([1, 1]), [])
        self.same(check(program, recovery, [((7,), (7,))]), Failed((0, 0), (1, 0), ((7,), (0,))))
        again = Recovery(Memory([1, 1]), [Step([Is(1, 0, [0])], [Store(0, 0, 7), Copy(1, 0, 0, 0)])])
        self.same(check(program, again, [((7,), (7,))]), Failed((0, 0), (0, 1), ((0,), (7,))))
        always = Recovery(Memory([1, 1]), [Step([], [Store(0, 0, 7), Copy(1, 0, 0, 0)])])
        self.assertIsNone(check(program, always, [((7,), (7,))]))

    def test_an_image_with_contents_seen_before(self):
        program = Program(Memory([1, 1]), [Store(0, 0, 0), Store(1, 0, 0), Store(0, 0, 4)])
        self.same(check(program, Recovery(Memory([1, 1]), []), [((0,), (0,))]), Failed((2, 0), None, ((4,), (0,))))

    def test_other_memories(self):
        nothing = Recovery(Memory([1, 1]), [])
        for memory in (Memory([1]), Memory([1, 2]), Memory([1, 1, 1])):
            self.refused(OtherMemory, {}, check, Program(memory, []), nothing, [])
        fine = ((0,), (0,))
        for words in ((), ((0,),), ((0,), (0, 0)), ((0,), (0,), (0,)), [[0], []]):
            self.refused(OtherMemory, {}, check, bare(), nothing, [words])
            self.refused(OtherMemory, {}, check, bare(), nothing, [fine, words, fine])

    def wide(self, first, second):
        return Program(Memory([1, 1]), [Store(0, 0, 1)] * first + [Store(1, 0, 1)] * second)

    def test_wide(self):
        nothing = Recovery(Memory([1, 1]), [])
        good = [((a,), (b,)) for a in range(2) for b in range(2)]
        self.assertEqual((count(self.wide(19, 14)), count(self.wide(6, 42))), (300, 301))
        self.assertIsNone(check(self.wide(19, 14), nothing, good))
        self.refused(Wide, {"count": 301}, check, self.wide(6, 42), nothing, good)
        self.refused(Wide, {"count": 301}, check, self.wide(100, 100), nothing, good)
        self.refused(Wide, {"count": 301}, check, chained(33), Recovery(Memory([1] * 6), []), [])

    def numbered(self, first, second):
        """A program of numbered stores to two lines, its contents in their order, and a recovery without steps."""
        program = Program(Memory([1, 1]), [Store(0, 0, at + 1) for at in range(first)]
                          + [Store(1, 0, at + 1) for at in range(second)])
        # Without flushes and fences the boxes of the first line come before those of the second one.
        images = [(a, 0) for a in range(first + 1)] + [(a, b) for b in range(1, second + 1) for a in range(first + 1)]
        return program, [((a,), (b,)) for a, b in images], Recovery(Memory([1, 1]), [])

    def test_three_hundred_images(self):
        program, good, nothing = self.numbered(3, 74)
        self.assertEqual((count(program), len(good)), (300, 300))
        self.assertIsNone(check(program, nothing, good))
        self.same(check(program, nothing, good[:1]), Failed((1, 0), None, ((1,), (0,))))
        self.same(check(program, nothing, good[:-1]), Failed((3, 74), None, ((3,), (74,))))
        wider, _, _ = self.numbered(3, 75)
        self.assertEqual(count(wider), 304)
        self.refused(Wide, {"count": 301}, check, wider, nothing, good)

    def test_the_first_contents_that_are_missing(self):
        for first, second in ((3, 74), (74, 3), (17, 15), (15, 17), (199, 0), (0, 200)):
            program, good, nothing = self.numbered(first, second)
            self.assertIsNone(check(program, nothing, good))
            for at, ((a,), (b,)) in enumerate(good):
                self.same(check(program, nothing, good[:at] + good[at + 1:]), Failed((a, b), None, good[at]))

    def test_the_work_for_three_hundred_images(self):
        for first, second in ((3, 74), (74, 3), (17, 15)):
            program, good, nothing = self.numbered(first, second)
            for allowed in (good, good[:1], good[:-1]):
                # A few calls for each image: no image goes through the whole program again.
                self.assertLess(calls_of(check, program, nothing, allowed), 20 * len(good))

    def test_other_memories_come_before_wide(self):
        self.refused(OtherMemory, {}, check, self.wide(6, 42), Recovery(Memory([1]), []), [])
        self.refused(OtherMemory, {}, check, self.wide(6, 42), Recovery(Memory([1, 1]), []), [((0,),)])

    def test_arguments_stay(self):
        good = [[[0], [0]], [[1], [0]], [[1], [1]]]
        check(safe(), Recovery(Memory([1, 1]), [Step([], [Store(0, 0, 1)])]), good)
        self.assertEqual(good, [[[0], [0]], [[1], [0]], [[1], [1]]])

    def test_most_images_and_most_moves(self):
        memory = Memory([4] * 6)
        program = Program(memory, [Store(0, 0, at) for at in range(19)] + [Store(1, 0, at) for at in range(14)])
        moves = [Copy(0, 1, 1, 0), Store(0, 2, 3), Copy(1, 1, 0, 0), Store(1, 2, 5), Store(2, 0, 1), Copy(3, 0, 0, 0),
                 Store(4, 0, -1), Copy(5, 0, 1, 0)]
        steps = [Step([], [move]) for move in moves] + [Step([Is(0, 0, range(-5, 5))], [])] * 4
        good = [((a, b, 3, 0), (b, a, 5, 0), (1, 0, 0, 0), (a, 0, 0, 0), (-1, 0, 0, 0), (b, 0, 0, 0))
                for a in range(19) for b in range(14)]
        self.assertIsNone(check(program, Recovery(memory, steps), good))
        last = good.pop()
        # The zeros are no other contents than one store of 0, so the last contents belong to the last image alone.
        self.same(check(program, Recovery(memory, steps), good), Failed((19, 14, 0, 0, 0, 0), None, last))

    def test_most_commands(self):
        block = [Store(0, 0, 1), Flush(0), Fence(), Store(0, 0, 2), Flush(0), Fence(), Store(1, 0, 1), Flush(1)]
        program = Program(Memory([1, 1]), block * 25)
        recovery = Recovery(Memory([1, 1]), [Step([Is(0, 0, [1])], [Store(0, 0, 2)])])
        good = [((a,), (b,)) for a in (0, 2) for b in (0, 1)]
        self.assertIsNone(check(program, recovery, good))
        self.same(check(program, Recovery(Memory([1, 1]), []), good), Failed((1, 0), None, ((1,), (0,))))

    def test_against_the_plain_search(self):
        drawn = Random(17)
        outcomes = {None: 0, False: 0, True: 0}
        for program in drawn_programs(400, 18, most_commands=8, most_stores=4):
            recovery = drawn_recovery(drawn, program.memory)
            ends = sorted({words for _, _, words in plain_ends(program, recovery)})
            uncut = sorted({words for _, second, words in plain_ends(program, recovery) if second is None})
            missing = drawn.choice(ends)
            for good in (ends, uncut, [words for words in ends if words != missing]):
                found = check(program, recovery, good)
                self.assertEqual(fields(found), plain_check(program, recovery, good))
                outcomes[None if found is None else found.second is None] += 1
        # The drawn cases are of all kinds: good ends, bad ends after an own cut, and bad ends without one.
        self.assertGreater(min(outcomes.values()), 30)


if __name__ == "__main__":
    unittest.main()
