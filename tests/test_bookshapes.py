"""Promises 0.2 to 0.5 and 10.3: all shapes that come in the runs of a book, and how many notes wait at most."""

import random
import unittest

from reference import loopy_blocks
from reference_books import is_knotted, plain_book_names, rows_in, some_books
from reference_piles import plain_names
from reference_shapes import plain_book_shapes
from rows import ASK, call, either, again, note
from putoffpiles.books import Book, as_book, put_in
from putoffpiles.bookrings import book_ring
from putoffpiles.bookruns import BookRun, book_shape
from putoffpiles.bookshapes import book_greatest, book_shapes
from putoffpiles.errors import Endless, TooMany
from putoffpiles.piles import greatest, ring, shapes
from putoffpiles.programs import Program

NOTHING = {op: lambda row: 0 for op in ("f", "g", "h", "add")}
GROWN = ("note", "x", "f", ("x",))


def straight(*rows):
    """A book that makes so many notes, each beneath the next one: hundreds, tens and ones."""
    hundreds, tens, ones = rows
    return Book(((call(1),) * hundreds + (call(3), call(4)), (call(2),) * 10, (GROWN,) * 10, (call(2),) * tens,
                 (GROWN,) * ones))


class Shapes(unittest.TestCase):
    def test_small_books(self):
        none = ((-1,), ())
        one = ((0,), (("f", ()),))
        for blocks, expected in (
            (((),), [((), ())]), (((call(1),), ()), [((), ())]), (((ASK,),), [none]),
            (((note("x"),),), [none, one]), (((call(1), ASK), (note("x"),)), [none, one]),
            (((again(call(1)),), (note("x"),)), [none, one]), (((either((call(0),)),),), [((), ())]),
            (((either((note("x"), call(0), ASK)),),), [none, one]),
        ):
            self.assertEqual(book_shapes(Book(blocks)), expected)
            self.assertEqual(book_greatest(Book(blocks)), max(len(notes) for heads, notes in expected))

    def test_they_are_ascending(self):
        book = Book(((note("x"), note("y", "x"), ("give", "x", 0)),))
        self.assertEqual(book_shapes(book), [((-1, -1), ()), ((-1, 0), (("f", (1,)), ("f", ()))), ((0, -1), (("f", ()),)),
                                             ((0, 1), (("f", ()), ("f", (0,))))])
        self.assertIs(type(book_shapes(book)), list)

    def test_lists_are_new(self):
        book = Book(((note("x"),),))
        book_shapes(book).clear()
        self.assertEqual(len(book_shapes(book)), 2)

    def test_the_end_counts_too(self):
        self.assertEqual(book_greatest(Book(((call(1),), (note("x"), note("y"))))), 2)

    def test_a_block_is_left_just_as_it_was_begun_for(self):
        # Block 1 asks what its caller noted; either caller goes on with what it left, not with the other's.
        book = Book(((either((note("x"), call(1), ("copy", "y", "x")), (note("z"), call(1), ("copy", "y", "z"))),), (ASK,)))
        none, one = ((-1, -1, -1), ()), (("f", ()),)
        self.assertEqual(book_shapes(book), [none, ((-1, -1, 0), one), ((-1, 0, 0), one), ((0, -1, -1), one)])
        self.assertEqual(set(book_shapes(book)), plain_book_shapes(book.blocks, 100))

    def test_piles_without_a_bound(self):
        book = Book(((either((note("x"), call(0), note("y"), call(1), call(0), ("print", "y"))),), (either((call(0),)), ASK)))
        self.assertIsNone(book_ring(book))
        self.assertEqual(book_shapes(book), sorted(plain_book_shapes(book.blocks, 200)))

    def test_main_that_calls_itself_and_agains_whose_blocks_call(self):
        for blocks in (((again(call(0), note("x")), ASK),), ((again(either((call(0), call(0), note("x")))),),),
                       ((either((note("x"), call(0), note("y"))),),),
                       ((again(call(1), again(call(1))), ASK), (either((call(0),), (note("x"),)), ("copy", "y", "x"), note("x")))):
            self.assertIsNone(book_ring(Book(blocks)))
            self.assertEqual(book_shapes(Book(blocks)), sorted(plain_book_shapes(blocks, 200)))


class Errors(unittest.TestCase):
    def assert_many(self, book, most):
        for function in (book_greatest, book_shapes):
            with self.assertRaises(TooMany) as caught:
                function(book)
            self.assertEqual(caught.exception.most, most)

    def test_endless(self):
        for blocks in (((again(GROWN),),), ((again(call(1)),), (GROWN,)), ((either((call(0), GROWN)),),),
                       ((either((GROWN, call(0))),),)):
            for function in (book_greatest, book_shapes):
                with self.assertRaises(Endless):
                    function(Book(blocks))

    def test_four_and_five_names(self):
        four = Book((tuple(note(name) for name in "ab") + (call(1),), tuple(note(name) for name in "cd")))
        self.assertEqual((book_greatest(four), len(book_shapes(four))), (4, 5))
        self.assert_many(Book((tuple(note(name) for name in "abcde"),)), 4)
        # More names are told ahead of notes that pile up.
        self.assert_many(Book(((again(GROWN),) + tuple(("ask", name) for name in "abcd"),)), 4)

    def test_a_thousand_shapes_and_one_more(self):
        book = straight(9, 9, 9)
        self.assertEqual((book_greatest(book), len(book_shapes(book))), (999, 1000))
        self.assert_many(straight(9, 10, 0), 1000)
        self.assert_many(Book(((call(1),) * 11, (call(2),) * 10, (GROWN,) * 10)), 1000)

    def test_notes_that_pile_up_are_told_ahead_of_many_shapes(self):
        for function in (book_greatest, book_shapes):
            with self.assertRaises(Endless):
                function(Book(((call(1),) * 11 + (again(GROWN),), (call(2),) * 10, (GROWN,) * 10)))


class Drawn(unittest.TestCase):
    def test_against_a_plain_account(self):
        counted = 0
        drawn = some_books(300, 801, True, most_blocks=3) + some_books(200, 802) + some_books(40, 803, most_names=4)
        for blocks in drawn:
            book = Book(blocks)
            if book_ring(book) is not None:
                continue
            expected = plain_book_shapes(blocks, 300)
            if expected is None:
                self.assertFalse(is_knotted(blocks))
                continue
            counted += is_knotted(blocks)
            self.assertEqual(book_shapes(book), sorted(expected), blocks)
            self.assertEqual(book_greatest(book), max(len(notes) for heads, notes in expected))
        self.assertGreater(counted, 100)

    def test_each_shape_that_comes_in_a_run_is_one_of_them(self):
        chance = random.Random(804)
        deepest = 0
        for blocks in some_books(200, 805, True):
            book = Book(blocks)
            if book_ring(book) is not None:
                continue
            all_shapes, most = book_shapes(book), book_greatest(book)
            run = BookRun(book, NOTHING)
            for _ in range(100):
                self.assertIn(book_shape(run), all_shapes)
                self.assertLessEqual(len(run.waiting()), most)
                if not run.pile():
                    break
                row = rows_in(blocks[run.pile()[-1][0]])[run.pile()[-1][1]]
                run.step(chance.randrange(2) if row[0] in ("either", "again") else 0)
                deepest = max(deepest, len(run.pile()))
        self.assertGreater(deepest, 15)

    def test_books_without_knots_as_the_programs_put_in(self):
        counted = 0
        for blocks in some_books(200, 806, False):
            book, wide = Book(blocks), put_in(Book(blocks))
            if ring(wide) is not None:
                with self.assertRaises(Endless):
                    book_shapes(book)
                continue
            try:
                expected = sorted({shape[1:] for shape in shapes(wide)})
            except TooMany:
                continue
            if len(expected) > 1000:
                continue
            counted += 1
            self.assertEqual(book_shapes(book), expected)
            self.assertEqual(book_greatest(book), greatest(wide))
        self.assertGreater(counted, 60)

    def test_books_of_one_program(self):
        for block in loopy_blocks(80, 807):
            program = Program(block)
            if ring(program) is None and len(plain_names(block)) <= 4:
                expected = sorted({shape[1:] for shape in shapes(program)})
                self.assertEqual(book_shapes(as_book(program)), expected)
                self.assertEqual(plain_book_names((block,)), plain_names(block))


if __name__ == "__main__":
    unittest.main()
