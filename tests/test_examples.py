"""The examples of the document, each as it stands there."""

import unittest

from lateststore.book import Book
from lateststore.desk import Desk
from lateststore.errors import BadCount, BadText, Empty, NoImage, NoPlace, NoWord
from lateststore.fencing import fenced
from lateststore.images import boxes, contents, count, cuts, image_at, place_of
from lateststore.likeness import differ, needless, trimmed
from lateststore.orders import breach, orders
from lateststore.programs import Fence, Flush, Memory, Program, Store, made, sure
from lateststore.programtexts import condition_text, program_text, read_condition, read_program
from lateststore.recoveries import Copy, Recovery, Step, check
from lateststore.rounds import count_repeated
from lateststore.rules import Is, broken, find
from tests.helper import bare, safe


class ExamplesTest(unittest.TestCase):
    def test_memory(self):
        with self.assertRaises(BadCount) as caught:
            Memory([2, 5])
        self.assertEqual((caught.exception.what, caught.exception.count), ("words", 5))

    def test_no_word(self):
        with self.assertRaises(NoWord) as caught:
            Program(Memory([2]), [Store(0, 2, 1)])
        self.assertEqual(caught.exception.word, 2)

    def test_made_and_sure(self):
        self.assertEqual((made(safe(), 4), sure(safe(), 2), sure(safe(), 3)), ((1, 1), (0, 0), (1, 0)))

    def test_boxes(self):
        self.assertEqual([(box.time, box.low, box.high) for box in boxes(bare())],
                         [(0, (0, 0), (0, 0)), (1, (1, 0), (1, 0)), (2, (0, 1), (1, 1))])

    def test_count(self):
        self.assertEqual((count(bare()), count(safe())), (4, 3))

    def test_places(self):
        self.assertEqual((image_at(bare(), 2), place_of(bare(), (1, 1))), ((0, 1), 3))

    def test_no_place(self):
        with self.assertRaises(NoPlace) as caught:
            image_at(bare(), 4)
        self.assertEqual(caught.exception.place, 4)

    def test_cuts(self):
        self.assertEqual((cuts(bare(), (1, 0)), cuts(safe(), (1, 0)), cuts(safe(), (0, 1))), ((1, 2), (1, 4), None))

    def test_no_image(self):
        with self.assertRaises(NoImage):
            cuts(bare(), (2, 0))

    def test_contents(self):
        program = Program(Memory([2]), [Store(0, 0, 5), Store(0, 1, 6)])
        self.assertEqual((contents(program, (1,)), contents(program, (2,))), (((5, 0),), ((5, 6),)))

    def test_differ(self):
        found = differ(bare(), safe())
        self.assertEqual((found.image, found.is_first), ((0, 1), True))

    def test_needless(self):
        program = Program(Memory([1, 1]), [Store(0, 0, 1), Flush(0), Flush(0), Fence(), Store(1, 0, 1)])
        self.assertEqual(needless(program), [1, 2])

    def test_trimmed(self):
        program = Program(Memory([1, 1]), [Store(0, 0, 1), Fence(), Flush(0), Store(1, 0, 1)])
        self.assertEqual(len(trimmed(program).commands), 2)

    def test_breach(self):
        self.assertEqual((breach(bare(), (0, 1)), breach(safe(), (0, 1))), ((0, 1), None))

    def test_orders(self):
        self.assertEqual((orders(bare()), orders(safe())), ([], [(0, 1)]))

    def test_fenced(self):
        found = fenced(Memory([1, 1]), [Store(0, 0, 1), Store(1, 0, 1)], [(0, 1)])
        self.assertEqual((len(found.result.commands), found.apart), (4, ((0, 1),)))

    def test_never(self):
        found = fenced(Memory([1, 1]), [Store(0, 0, 1), Store(1, 0, 1)], [(0, 1), (1, 0)])
        self.assertEqual(found.order, (1, 0))

    def test_find(self):
        self.assertEqual((find(bare(), [Is(1, 0, [1])]), find(bare(), [Is(1, 0, [2, 3])])), ((0, 1), None))

    def test_broken(self):
        given, wanted = [Is(1, 0, [1])], [Is(0, 0, [1])]
        self.assertEqual((broken(bare(), given, wanted), broken(safe(), given, wanted)), ((0, 1), None))

    def test_check(self):
        memory = Memory([1, 1, 1])
        redo = Recovery(memory, [Step([Is(1, 0, [1])], [Copy(2, 0, 0, 0)])])
        good = [((0,), (0,), (0,)), ((7,), (0,), (0,)), ((7,), (1,), (7,))]
        found = check(Program(memory, [Store(0, 0, 7), Store(1, 0, 1)]), redo, good)
        self.assertEqual((found.image, found.second, found.words), ((0, 1, 0), None, ((0,), (1,), (0,))))
        fenced_program = Program(memory, [Store(0, 0, 7), Flush(0), Fence(), Store(1, 0, 1)])
        self.assertIsNone(check(fenced_program, redo, good))

    def test_count_repeated(self):
        block = [Store(0, 0, 1), Store(1, 0, 1)]
        self.assertEqual((count_repeated(Memory([1, 1]), [], block, [], 1000),
                          count_repeated(Memory([1, 1]), [], block, [], 0)), (1002001, 1))

    def test_count_repeated_with_fences(self):
        self.assertEqual(count_repeated(Memory([1, 1]), [], [Store(0, 0, 1), Flush(0), Fence()], [], 10 ** 30),
                         1000000000000000000000000000001)

    def test_book(self):
        book = Book(Memory([1, 1]))
        book.add(Store(0, 0, 1))
        book.add(Store(1, 0, 1))
        book.rule('a', [Is(1, 0, [1])], [Is(0, 0, [1])])
        self.assertEqual((book.state('a'), book.many()), ((0, 1), 3))

    def test_empty_book(self):
        with self.assertRaises(Empty):
            Book(Memory([1])).take()

    def test_program_text(self):
        self.assertEqual(program_text(safe()), 'store 0 0 1, flush 0, fence, store 1 0 1')

    def test_bad_text(self):
        with self.assertRaises(BadText) as caught:
            read_program(Memory([1]), 'store 0 0 1, flush')
        self.assertEqual(caught.exception.place, 1)

    def test_condition_text(self):
        self.assertEqual(condition_text(read_condition('1.0=3/-1/3')), '1.0=-1/3')

    def test_desk(self):
        desk = Desk(Memory([1, 1]))
        desk.tell('add store 0 0 1')
        desk.tell('add store 1 0 1')
        self.assertEqual(desk.tell('holds 0 1'), ['no 0 1'])

    def test_empty_desk(self):
        desk = Desk(Memory([1]))
        self.assertEqual(desk.tell('take'), ['refused empty'])


if __name__ == "__main__":
    unittest.main()
