"""Promises 0.2 to 0.5 and 9.1: books, their places, and the programs that do without calls."""

import random
import unittest

from odd import anything, odd_integers, odd_strings, odd_things, odd_tuples
from reference import loopy_blocks, reference_nexts, some_blocks
from reference_books import (
    is_knotted, plain_bad_part, plain_book_names, plain_put_in, rows_in, some_books)
from reference_piles import TERMS
from rows import ASK, call, either, note
from putoffpiles.books import Book, as_book, book_names, book_row, put_in
from putoffpiles.bookruns import BookRun
from putoffpiles.booktexts import book_text
from putoffpiles.errors import BadBook, BadProgram, Knotted, NoPlace, TooMany
from putoffpiles.marks import marked, surely
from putoffpiles.piles import greatest, is_closed, ring, shapes
from putoffpiles.programs import Program, is_way, names, nexts, row_at
from putoffpiles.runs import told
from putoffpiles.texts import program_text

ROWS_12 = (ASK,) * 12


class BookCase(unittest.TestCase):
    def assert_bad(self, blocks, part):
        with self.assertRaises(BadBook, msg=str(blocks)[:200]) as caught:
            Book(blocks)
        self.assertEqual(caught.exception.part, part, str(blocks)[:200])
        self.assertEqual(list(map(type, caught.exception.part)), list(map(type, part)))

    def assert_good(self, blocks):
        self.assertEqual(Book(blocks).blocks, blocks)


class Forms(BookCase):
    def test_how_many_blocks(self):
        self.assert_good(((),))
        self.assert_good(((call(1), call(2), call(3), call(4), call(5)),) + ((),) * 5)
        self.assert_bad((), (-1,))
        self.assert_bad(((call(1), call(2), call(3), call(4), call(5), call(6)),) + ((),) * 6, (-1,))
        self.assert_bad((ROWS_12,) * 7, (-1,))

    def test_what_is_no_tuple(self):
        for thing in [[()], [(ASK,)], {0: ()}, "abc", None, 3, True] + odd_things() + odd_integers() + odd_strings():
            self.assert_bad(thing, (-1,))

    def test_blocks_of_all_kinds(self):
        for thing in anything():
            if thing == ():
                continue
            if not isinstance(thing, tuple):
                self.assert_bad((thing,), (0, -1))
                self.assert_bad(((call(1),), thing), (1, -1))
            else:
                self.assert_bad((thing,), (0, 0))
            self.assert_bad(((thing,),), (0, 0))
            self.assert_bad(((ASK, call(1)), (ASK, ASK, thing)), (1, 2))
            self.assert_bad((((thing, 1),),), (0, 0))
            self.assert_bad((((ASK, thing),),), (0, 0))
            self.assert_bad(((ASK, ("again", (thing,))),), (0, 2))

    def test_calls_of_all_kinds(self):
        two = ((call(1),), ())
        self.assert_good(two)
        for thing in [2, 3, -1, -2, 10 ** 29, True, False, "1", "0", (1,), None, b"1"] + anything():
            self.assert_bad(((call(1), call(thing)), ()), (0, 1))
            self.assert_bad(((call(1),), (ASK, either((), (ASK, call(thing))))), (1, 3))
        for row in (("call",), ("call", 1, 1), ("call", 1, ()), ["call", 1], ("CALL", 1), ("call ", 1), (b"call", 1)):
            self.assert_bad(((call(1), row), ()), (0, 1))

    def test_calls_of_the_last_block_and_of_one_behind_it(self):
        for size in range(1, 7):
            blocks = (tuple(call(n) for n in range(1, size)) + (either((call(size - 1),)),),) + ((),) * (size - 1)
            self.assert_good(blocks)
            self.assert_bad(blocks[:-1] + (blocks[-1] + (call(size),),), (size - 1, len(rows_in(blocks[-1]))))

    def test_a_program_has_no_calls(self):
        for row in (call(0), call(1), call(True)):
            with self.assertRaises(BadProgram) as caught:
                Program((ASK, row))
            self.assertEqual(caught.exception.place, 1)

    def test_long_blocks(self):
        self.assert_good((ROWS_12,))
        self.assert_bad((ROWS_12 + (ASK,),), (0, -1))
        self.assert_bad(((call(1),), ROWS_12 + (ASK,)), (1, -1))
        self.assert_bad(((call(1),), (ASK, ("again", ROWS_12 + (ASK,)))), (1, 1))
        self.assert_good(((call(1),) * 12, (ASK, ("again", ROWS_12), ("again", (call(1),) * 12))))

    def test_thirty_rows_and_one_more(self):
        thirty = (either(ROWS_12, ROWS_12),) + (ASK,) * 5
        self.assert_good((thirty,))
        self.assert_good(((call(1),), thirty))
        self.assert_bad((thirty + (ASK,),), (0, -1))
        self.assert_bad((thirty + (call(0),),), (0, -1))
        self.assert_bad(((call(1),), thirty + (call(0),)), (1, -1))
        self.assert_good(tuple(thirty[:-5] + (call(n),) * 5 for n in (1, 2, 3, 4, 5)) + (thirty,))

    def test_deep_blocks(self):
        deep = (call(0), ASK)
        for _ in range(3):
            deep = (("again", deep),)
        self.assert_good((deep,))
        self.assert_bad(((("again", deep),),), (0, 3))
        self.assert_bad(((call(1),), (ASK, ("again", deep))), (1, 4))

    def test_eight_names_and_nine_over_all_blocks(self):
        first, second = tuple(("ask", name) for name in "abcd"), tuple(("ask", name) for name in "efgh")
        self.assert_good((first + (call(1),), second))
        self.assertEqual(book_names(Book((first + (call(1),), second))), tuple("abcdefgh"))
        self.assert_bad((first + (call(1),), second + (("ask", "i"),)), (-1,))
        self.assert_bad((first + second + (("ask", "i"),),), (0, -1))
        self.assert_bad((first + (call(1), ("note", "a", "op", ("i",))), second), (-1,))
        self.assert_good((first + (call(1), ("note", "a", "op", ("h",))), second))

    def test_the_first_fault_is_told(self):
        nine = tuple(("ask", name) for name in "abcdefghi")
        bad, endless = ("ask", 1), (call(0),)
        self.assert_bad((endless, nine, (ASK, bad)), (1, -1))
        self.assert_bad((endless, (ASK, bad), nine), (1, 1))
        self.assert_bad((endless, (ASK, bad), [ASK]), (1, 1))
        self.assert_bad((endless, nine[:5], (bad,)), (2, 0))
        self.assert_bad((endless, nine[:5], nine[5:]), (-1,))
        self.assert_bad((endless, nine[:5], nine[5:8]), ("endless", 0))
        self.assert_bad(((), nine[:5], nine[5:8]), ("apart", 1))
        self.assert_bad(((call(1),), nine[:5], (call(2),)), ("endless", 2))
        self.assert_bad(([], None), (0, -1))
        self.assert_bad((ROWS_12 + (bad,),), (0, 12))
        self.assert_bad(((either(ROWS_12 + (bad,)),),), (0, 0))


class EndlessAndApart(BookCase):
    def test_endless(self):
        self.assert_bad(((call(0),),), ("endless", 0))
        self.assert_bad(((ASK, call(1)), (ASK, call(1))), ("endless", 0))
        self.assert_bad(((either((call(1),)),), (ASK, call(1))), ("endless", 1))
        self.assert_bad(((either((call(1),)),), (call(2),), (call(1),)), ("endless", 1))
        self.assert_bad(((either((call(1), call(2))),), (), (call(3),), (call(2),)), ("endless", 2))
        self.assert_bad(((either((call(0),), (call(0),)),),), ("endless", 0))
        self.assert_bad(((either((call(0), ASK), (ASK, either((call(0),), (call(0), ASK)))),),), ("endless", 0))
        self.assert_bad(((("again", (ASK,)), call(0)),), ("endless", 0))

    def test_not_endless(self):
        self.assert_good(((either((call(0),)),),))
        self.assert_good(((either((), (call(0), call(0))),),))
        self.assert_good(((("again", (call(0),)),),))
        self.assert_good(((either((call(0),), (call(1),)),), (either((call(0),), (ASK,)),)))
        self.assert_good(((call(1),), (either((call(0),), (call(2),)),), ()))
        self.assert_good(((call(1),), (call(2),), (call(3),), (call(4),), (call(5),), (either((call(0),)),)))

    def test_an_either_of_which_no_side_ends(self):
        self.assert_bad(((either((call(1),), (call(2),)),), (call(2),), (call(1),)), ("endless", 0))
        self.assert_good(((either((call(1),), (call(2),)),), (either((call(2),)),), (call(1),)))

    def test_apart(self):
        self.assert_bad(((), ()), ("apart", 1))
        self.assert_bad(((call(2),), (call(2),), ()), ("apart", 1))
        self.assert_bad(((call(2),), (call(2), either((call(1),))), ()), ("apart", 1))
        self.assert_bad(((call(1),), (), (call(3),), ()), ("apart", 2))
        self.assert_bad(((either((call(0),)),), (call(0),)), ("apart", 1))
        self.assert_bad(((), (either((call(1),)),)), ("apart", 1))
        self.assert_bad(((), (either((call(2),)),), (either((call(1),)),)), ("apart", 1))
        self.assert_good(((call(2),), (), (either((), (("again", (call(1),)),)),)))

    def test_both(self):
        self.assert_bad(((), (), (call(2),)), ("endless", 2))
        self.assert_bad(((), (call(1),), ()), ("endless", 1))
        self.assert_bad(((call(1),), (call(1),), ()), ("endless", 0))

    def test_drawn_blocks(self):
        chance = random.Random(201)
        counted = {}
        for blocks in some_books(300, 202) + some_books(200, 203, most_blocks=6):
            self.assert_good(blocks)
            for _ in range(6):
                changed = list(blocks)
                n = chance.randrange(len(blocks))
                block = changed[n]
                kind = chance.randrange(5)
                if kind == 0:
                    block += (call(chance.randint(0, len(blocks))),)
                elif kind == 1:
                    block = tuple(row for row in block if row[0] != "call")
                elif kind == 2:
                    block = tuple(either((row,), (call(n),)) if chance.random() < 0.5 else row for row in block)
                elif kind == 3:
                    block += tuple(("ask", name) for name in chance.sample("abcdefgh", 6))
                else:
                    changed.append((call(chance.randint(0, len(blocks))),))
                changed[n] = block
                part = plain_bad_part(tuple(changed))
                counted[str(part and part[0])] = counted.get(str(part and part[0]), 0) + 1
                if part is None:
                    self.assert_good(tuple(changed))
                else:
                    self.assert_bad(tuple(changed), part)
        self.assertGreater(min(counted[key] for key in ("None", "endless", "apart")), 50)


class Equality(BookCase):
    def test_equal_just_if_the_blocks_are(self):
        for blocks in some_books(40, 204):
            again = Book(tuple(tuple(list(block)) for block in blocks))
            self.assertTrue(Book(blocks) == again)
            self.assertFalse(Book(blocks) != again)
            other = Book(blocks[:-1] + (blocks[-1][:-1] + (("give", "z", 7),),)) if blocks[-1] else Book(((ASK,),))
            if other.blocks != blocks:
                self.assertFalse(Book(blocks) == other)
                self.assertTrue(Book(blocks) != other)

    def test_equal_to_nothing_of_another_class(self):
        book = Book(((ASK,),))
        for thing in [Program((ASK,)), ((ASK,),), BadBook((-1,))] + anything():
            self.assertIs(book == thing, False)
            self.assertIs(thing == book, False)


class Places(BookCase):
    BOOK = Book(((note("x"), either((call(1),), (("give", "y", 1),)), call(1)), (), ))

    def test_rows(self):
        rows = (note("x"), either((call(1),), (("give", "y", 1),)), call(1), ("give", "y", 1), call(1))
        self.assertEqual(tuple(book_row(self.BOOK, 0, place) for place in range(5)), rows)
        for blocks in some_books(60, 205):
            book = Book(blocks)
            self.assertEqual(book_names(book), plain_book_names(blocks))
            for n, block in enumerate(blocks):
                rows = rows_in(block)
                self.assertEqual([book_row(book, n, place) for place in range(len(rows))], rows)
                for place in (len(rows), len(rows) + 1, -1):
                    with self.assertRaises(NoPlace):
                        book_row(book, n, place)

    def test_no_place(self):
        for thing in [2, -1, True, False, "0", (0,), 5] + anything():
            with self.subTest(thing=type(thing)):
                if not isinstance(thing, int) or isinstance(thing, bool) or not 0 <= thing < 5:
                    with self.assertRaises(NoPlace):
                        book_row(self.BOOK, 0, thing)
                for place in (0, 1, None, thing):
                    with self.assertRaises(NoPlace):
                        book_row(self.BOOK, 1, place)
                    with self.assertRaises(NoPlace):
                        book_row(self.BOOK, thing, place)

    def test_names_are_not_ops(self):
        self.assertEqual(book_names(self.BOOK), ("x", "y"))
        self.assertEqual(book_names(Book(((call(1),), (("note", "b", "zz", ("a",)), ("copy", "d", "c"))))), tuple("abcd"))
        self.assertEqual(book_names(Book(((),))), ())


class AsBook(BookCase):
    def test_a_program_alone(self):
        for block in some_blocks(40, 206):
            book = as_book(Program(block))
            self.assertEqual(book.blocks, (block,))
            self.assertTrue(book == Book((block,)))
            self.assertEqual(put_in(book), Program(block))
            self.assertEqual(book_names(book), names(Program(block)))

    def test_a_program_with_more_rows_than_a_caller_may_have(self):
        program = marked(Program((note("x"),) * 12), tuple(range(12)))
        book = as_book(program)
        self.assertEqual(book.blocks, (program.block,))
        self.assertEqual(book_row(book, 0, 23), ("ask", "x"))
        self.assertEqual(put_in(book), program)
        run = BookRun(book, TERMS)
        for _ in range(24):
            run.step(0)
        self.assertEqual((run.pile(), run.worked()), ((), tuple(range(12))))
        self.assertEqual(book_text(book), "block\n" + "  x = f()\n  ask x\n" * 12)
        with self.assertRaises(BadBook):
            Book(book.blocks)


class PutIn(BookCase):
    def test_calls_are_exchanged(self):
        book = Book(((call(1), note("x"), ("again", (call(2), ASK)), call(1)), (either((call(2),), ()), ASK), (note("y"),)))
        inner = (either((note("y"),), ()), ASK)
        self.assertEqual(put_in(book).block, inner + (note("x"), ("again", (note("y"), ASK))) + inner)
        self.assertEqual(names(put_in(book)), ("x", "y"))

    def test_empty_blocks(self):
        self.assertEqual(put_in(Book(((),))).block, ())
        self.assertEqual(put_in(Book(((call(1),), ()))).block, ())
        self.assertEqual(put_in(Book(((either((call(1),), (call(1), call(1))), ("again", (call(1),))), ()))).block,
                         (either((), ()), ("again", ())))

    def test_knotted(self):
        knots = [
            ((either((call(0),)),),), ((call(1),), (either((call(1),)),)), ((call(1),), (either((call(0),)),)),
            ((call(1),), (call(2),), (call(3),), (either((), (("again", (call(1),)),)),)),
            ((("again", (call(0),)),),),
        ]
        for blocks in knots + some_books(30, 207, True):
            with self.assertRaises(Knotted):
                put_in(Book(blocks))

    def test_a_knot_comes_ahead_of_too_many_rows(self):
        blocks = tuple((call(n),) * 12 for n in range(1, 5)) + ((note("x"),) * 12 + (), )
        with self.assertRaises(TooMany):
            put_in(Book(blocks))
        with self.assertRaises(Knotted):
            put_in(Book(blocks[:-1] + ((note("x"), either((call(4),))),)))

    TENS = ((call(2),) * 10, (call(3),) * 10, (ASK,) * 10, ())

    def test_two_thousand_rows_and_one_more(self):
        self.assertEqual(put_in(Book(((call(1), call(4), call(1)),) + self.TENS)).block, (ASK,) * 2000)
        for more in ((ASK,), (call(3),), (either(()),), (("again", (call(4),)),)):
            with self.assertRaises(TooMany) as caught:
                put_in(Book(((call(1), call(4), call(1)) + more,) + self.TENS))
            self.assertEqual(caught.exception.most, 2000)
        for empty in (1, 9):
            rows = (either((call(1), call(2)) + (call(4),) * empty, (call(2),) * 8), ("again", (call(3),) * 4), ASK, ASK)
            wide = put_in(Book((rows,) + self.TENS))
            self.assertEqual(len(rows_in(wide.block)), 1 + 1100 + 800 + 1 + 40 + 2)

    def test_many_more_rows(self):
        blocks = tuple((call(n),) * 12 for n in range(1, 6)) + ((ASK,) * 12,)
        with self.assertRaises(TooMany) as caught:
            put_in(Book(blocks))
        self.assertEqual(caught.exception.most, 2000)
        self.assertEqual(put_in(Book(blocks[:-1] + ((),))).block, ())

    def test_deeper_rows_than_a_program_may_have(self):
        def within(row):
            return (("again", (("again", (("again", (row,)),)),)),)
        wide = put_in(Book(tuple(within(call(n)) for n in range(1, 6)) + (within(note("x", "x")),)))
        self.assertEqual([row_at(wide, place)[0] for place in range(19)], ["again"] * 18 + ["note"])
        self.assertEqual([nexts(wide, place) for place in (0, 1, 17, 18)], [(1, 19), (2, 0), (18, 16), (17,)])
        self.assertEqual(program_text(wide).split("\n")[18], "  " * 18 + "x = f(x)")
        self.assertEqual(ring(wide)[0], 18)
        row = ("again", (note("x", "x"), ASK))
        for _ in range(17):
            row = ("again", (row,))
        self.assertEqual(marked(wide, (18,)).block, (row,))

    def test_all_that_takes_a_program_takes_it(self):
        wide = put_in(Book(((call(1), call(4), call(1)),) + self.TENS[:2] + ((note("x"),) * 9 + (ASK,), ())))
        self.assertEqual((ring(wide), greatest(wide), len(shapes(wide))), (None, 1, 2001))
        self.assertTrue(is_closed(wide, tuple(shapes(wide))))
        self.assertTrue(is_way(wide, tuple(range(2001))))
        self.assertEqual(told(wide, tuple(range(2001)), TERMS).worked(), tuple(range(8, 1800, 9)))
        self.assertEqual(surely(wide), tuple(range(8, 2000, 10)))
        self.assertEqual(len(marked(wide, surely(wide)).block), 2200)
        self.assertEqual(as_book(wide).blocks, (wide.block,))
        with self.assertRaises(TooMany):
            put_in(as_book(marked(wide, surely(wide))))

    def test_drawn_books(self):
        for blocks in some_books(300, 208, False):
            wide = put_in(Book(blocks))
            expected = plain_put_in(blocks[0], blocks)
            self.assertEqual(wide.block, expected)
            leads = reference_nexts(expected)
            self.assertEqual([nexts(wide, place) for place in range(len(leads))], leads)
            self.assertEqual(wide, put_in(as_book(wide)))
        for blocks in some_books(100, 209):
            if is_knotted(blocks):
                with self.assertRaises(Knotted):
                    put_in(Book(blocks))
            else:
                self.assertEqual(put_in(Book(blocks)).block, plain_put_in(blocks[0], blocks))

    def test_the_book_is_not_changed(self):
        blocks = ((call(1), call(1)), (note("x"),))
        book = Book(blocks)
        put_in(book)
        self.assertEqual((book.blocks, book_row(book, 0, 1)), (blocks, call(1)))


if __name__ == "__main__":
    unittest.main()
