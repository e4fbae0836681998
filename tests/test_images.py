"""Points 6 to 8: cuts, boxes, count, places and contents."""

import unittest

from lateststore.errors import NoImage, NoPlace
from lateststore.images import Box, boxes, contents, count, cuts, image_at, place_of
from lateststore.programs import Fence, Flush, Memory, Program, Store
from tests.helper import (Checks, all_images, bare, chained, drawn_programs, plain_contents, plain_latest, plain_order,
                          plain_times, safe, short_programs)


def empty():
    return Program(Memory([1, 2]), [])


class CutsTest(Checks):
    def test_zeros(self):
        self.assertEqual(cuts(bare(), (0, 0)), (0, 2))
        self.assertEqual(cuts(safe(), (0, 0)), (0, 2))
        self.assertEqual(cuts(empty(), (0, 0)), (0, 0))

    def test_a_pair_is_a_tuple(self):
        self.assertIs(type(cuts(program=bare(), image=[1, 0])), tuple)
        self.assertEqual(cuts(bare(), [1, 0]), (1, 2))

    def test_last_time(self):
        self.assertEqual(cuts(bare(), (1, 1)), (2, 2))
        self.assertEqual(cuts(safe(), (1, 1)), (4, 4))

    def test_no_time(self):
        self.assertIsNone(cuts(safe(), (0, 1)))

    def test_wrong_images(self):
        for function in (cuts, place_of, contents):
            for image in ((), (0,), (0, 0, 0), (0, 2), (2, 0), (-1, 0), (0, -1), (0, 10 ** 30), [1, 1, 1]):
                self.refused(NoImage, {}, function, bare(), image)
            self.refused(NoImage, {}, function, empty(), (0, 1))
            self.refused(NoImage, {}, function, empty(), (0,))


class BoxTest(Checks):
    def test_fields(self):
        low, high = [0, 1], [2, 3]
        box = Box(5, low, high)
        low.append(9)
        high[0] = 9
        self.assertEqual(vars(box), {"time": 5, "low": (0, 1), "high": (2, 3)})
        self.assertEqual((type(box.low), type(box.high)), (tuple, tuple))
        self.same(Box(high=(2, 3), low=[0, 1], time=5), box)

    def test_creating_checks_nothing(self):
        self.assertEqual(vars(Box(-1, [5], (3, -4))), {"time": -1, "low": (5,), "high": (3, -4)})

    def test_equality(self):
        for changed in (Box(4, (0,), (1,)), Box(5, (1,), (1,)), Box(5, (0,), (0,)), (5, (0,), (1,)), None):
            self.other(Box(5, (0,), (1,)), changed)

    def test_in(self):
        box = Box(3, (0, 2), (1, 2))
        for image in ((0, 2), (1, 2), [0, 2], [1, 2]):
            self.assertIs(image in box, True)
        for image in ((-1, 2), (2, 2), (0, 1), (0, 3), (2, 1)):
            self.assertIs(image in box, False)

    def test_another_number_of_numbers(self):
        box = Box(3, (0, 0), (1, 1))
        for image in ((), (0,), (0, 0, 0), [0], []):
            self.assertIs(image in box, False)
            self.assertIs(image not in box, True)
        self.assertIs((0,) in Box(0, (0,), (1, 1)), False)
        self.assertIs((0, 0) in Box(0, (0,), (1, 1)), False)


class BoxesTest(Checks):
    def test_no_commands(self):
        self.assertEqual(boxes(empty()), [Box(0, (0, 0), (0, 0))])

    def test_fenced(self):
        self.assertEqual(boxes(program=safe()), [Box(0, (0, 0), (0, 0)), Box(1, (1, 0), (1, 0)), Box(4, (1, 1), (1, 1))])

    def test_the_own_line_is_fixed(self):
        program = Program(Memory([1, 1]), [Store(0, 0, 1), Store(1, 0, 1), Store(0, 0, 2), Store(0, 0, 3)])
        self.assertEqual([(box.time, box.low, box.high) for box in boxes(program)],
                         [(0, (0, 0), (0, 0)), (1, (1, 0), (1, 0)), (2, (0, 1), (1, 1)), (3, (2, 0), (2, 1)),
                          (4, (3, 0), (3, 1))])

    def test_a_flush_and_a_fence_after_the_last_store(self):
        program = bare() + Program(Memory([1, 1]), [Flush(0), Flush(1), Fence()])
        self.assertEqual(boxes(program), boxes(bare()))

    def test_lists_are_new_and_parts_are_tuples(self):
        program = bare()
        found = boxes(program)
        self.assertIs(type(found), list)
        for box in found:
            self.assertEqual((type(box.low), type(box.high)), (tuple, tuple))
        found.pop()
        self.assertEqual(len(boxes(program)), 3)


class PlacesTest(Checks):
    def test_no_commands(self):
        self.assertEqual((count(empty()), image_at(empty(), 0), place_of(empty(), (0, 0))), (1, (0, 0), 0))
        self.refused(NoPlace, {"place": 1}, image_at, empty(), 1)

    def test_wrong_places(self):
        for place in (-1, 4, -10 ** 30, 10 ** 30):
            self.refused(NoPlace, {"place": place}, image_at, bare(), place)
        self.refused(NoPlace, {"place": 3}, image_at, safe(), 3)

    def test_boxes_come_before_the_tuples(self):
        images = [image_at(bare(), place) for place in range(4)]
        self.assertEqual(images, [(0, 0), (1, 0), (0, 1), (1, 1)])

    def test_not_possible(self):
        self.assertIsNone(place_of(safe(), (0, 1)))
        self.assertEqual(place_of(safe(), [1, 1]), 2)

    def test_kinds(self):
        self.assertIs(type(image_at(program=bare(), place=0)), tuple)
        self.assertIs(type(count(program=bare())), int)
        self.assertEqual(place_of(program=bare(), image=(0, 0)), 0)

    def test_many_images(self):
        program = chained(33)
        self.assertEqual(count(program), 34 ** 6)
        self.assertEqual(place_of(program, (33,) * 6), 34 ** 6 - 1)
        self.assertEqual(image_at(program, 34 ** 6 - 1), (33,) * 6)
        self.refused(NoPlace, {"place": 34 ** 6}, image_at, program, 34 ** 6)
        for place in range(0, 34 ** 6, 7654321):
            self.assertEqual(place_of(program, image_at(program, place)), place)

    def test_most_commands(self):
        commands = [Store(at // 3 % 6, 0, at) if at % 3 == 0 else Flush(at // 5 % 6) for at in range(199)] + [Fence()]
        program = Program(Memory([1] * 6), commands)
        total = count(program)
        self.assertEqual(total, 13 * 12 ** 5)
        self.assertEqual(cuts(program, (0,) * 6), (0, 199))
        self.assertEqual(cuts(program, image_at(program, total - 1)), (199, 200))
        self.assertEqual(len(boxes(program)), 68)

    def test_most_commands_with_fences(self):
        block = [Store(0, 0, 1), Flush(0), Fence(), Store(1, 3, 2), Flush(1), Fence(), Store(5, 0, 3), Flush(5)]
        program = Program(Memory([1, 4, 1, 1, 1, 1]), block * 25)
        self.assertEqual(count(program), 1 + 25 + 25 + 25 + 24)
        self.assertEqual(contents(program, (25, 25, 0, 0, 0, 25))[1], (0, 0, 0, 2))
        self.assertIsNone(cuts(program, (0, 25, 0, 0, 0, 0)))


class ContentsTest(Checks):
    def test_last_durable_store(self):
        program = Program(Memory([2, 1]), [Store(0, 1, 5), Store(1, 0, 4), Store(0, 1, -6), Store(0, 0, 10 ** 40)])
        self.assertEqual(contents(program, (0, 0)), ((0, 0), (0,)))
        self.assertEqual(contents(program, (1, 1)), ((0, 5), (4,)))
        self.assertEqual(contents(program, (2, 0)), ((0, -6), (0,)))
        self.assertEqual(contents(program, (3, 1)), ((10 ** 40, -6), (4,)))

    def test_not_possible_but_of_the_right_form(self):
        self.assertEqual(contents(safe(), (0, 1)), ((0,), (1,)))

    def test_no_commands(self):
        self.assertEqual(contents(empty(), (0, 0)), ((0,), (0, 0)))

    def test_kinds(self):
        found = contents(program=bare(), image=[1, 0])
        self.assertEqual([type(found)] + [type(row) for row in found], [tuple] * 3)

    def test_equal_contents_of_different_images(self):
        program = Program(Memory([1]), [Store(0, 0, 1), Store(0, 0, 1)])
        self.assertEqual(contents(program, (1,)), contents(program, (2,)))


class PlainSearchTest(Checks):
    def check_program(self, program):
        times = plain_times(program)
        order = plain_order(program)
        self.assertEqual(count(program), len(order))
        for place, image in enumerate(order):
            self.assertEqual((image_at(program, place), place_of(program, image)), (image, place))
        for image, found in times.items():
            # A cut can leave an image at all times between the first and the last one.
            self.assertEqual(found, list(range(found[0], found[-1] + 1)) if found else [])
            self.assertEqual(cuts(program, image), (found[0], found[-1]) if found else None)
            if not found:
                self.assertIsNone(place_of(program, image))
        self.check_boxes(program, order)

    def check_boxes(self, program, order):
        found = boxes(program)
        self.assertEqual([box.time for box in found], [0] + [
            at + 1 for at, command in enumerate(program.commands) if isinstance(command, Store)])
        for image in all_images(program):
            times = [box.time for box in found if image in box]
            self.assertEqual(times, [plain_latest(program, image)] if image in order else [])

    def test_short_programs(self):
        for program in short_programs(5):
            self.check_program(program)

    def test_drawn_programs(self):
        for program in drawn_programs(300, 2):
            self.check_program(program)

    def test_contents(self):
        for program in drawn_programs(100, 3):
            for image in all_images(program):
                self.assertEqual(contents(program, image), plain_contents(program, image))


if __name__ == "__main__":
    unittest.main()
