"""Promises 0.2 to 0.5 and 10.2: rings of books, and the steps that go them."""

import random
import unittest

from odd import anything
from reference import loopy_blocks
from reference_books import plain_book_names, rows_in, some_books
from reference_passages import heads_of
from reference_piles import TERMS
from reference_shapes import plain_book_shapes, plainly_book_ring
from rows import ASK, call, either, again, note
from putoffpiles.books import Book, as_book, book_names, put_in
from putoffpiles.bookrings import book_ring, is_book_ring, ring_steps
from putoffpiles.bookruns import BookRun, book_told
from putoffpiles.errors import NoNumber, NoRing, TooMany
from putoffpiles.piles import ring
from putoffpiles.programs import Program


BACK = Book(((("give", "t", 0), call(1), ("print", "t")), (either((call(1), note("t", "t"))),)))
BACK_RING = ("back", (1, -1), ((1, 2),), 0, ("t",))
THERE = Book(((call(1), ("print", "t")), (either((note("t", "t"), call(1))),)))
THERE_RING = ("there", (1, -1), ((1, 0), (1, 1), (1, 2)), 1, ("t",))
LOOP = as_book(Program((("give", "t", 0), again(note("t", "t")), ("print", "t"))))
LOOP_RING = ("there", (0, 1), ((0, 1), (0, 2)), 1, ("t",))
GROWN = note("x", "x")


class BookRings(unittest.TestCase):
    def test_books_without_one(self):
        for blocks in (
            ((),), ((again(),),), ((GROWN,) * 12,), ((call(1),), (GROWN,)), ((call(1),) * 12, (GROWN,) * 12),
            ((again(call(1)),), (note("x"),)), ((again(call(1), ASK),), (GROWN,)), ((again(call(1)),), (GROWN, ASK)),
            ((either((call(0),)),),), ((either((ASK, GROWN, call(0)), ()),),), ((either((call(0), ASK, GROWN)),),),
            ((either((call(0),)), GROWN, ASK),), ((either((call(1), ASK)),), (either((call(0),)), GROWN)),
            ((either((note("x"), call(0), note("x"))),),), ((again(either((call(0),), ())), ASK),),
            ((either((GROWN, call(1))),), (("give", "x", 0), either((call(0),)))),
            ((either((call(0), note("x", "y"))), note("y"), ("copy", "x", "y")),),
        ):
            self.assertIsNone(book_ring(Book(blocks)), blocks)
            self.assertIsNotNone(plain_book_shapes(blocks, 300), blocks)

    def test_books_with_one(self):
        for blocks in (
            BACK.blocks, THERE.blocks, LOOP.blocks, ((again(call(1)),), (GROWN,)), ((either((GROWN, call(0))),),),
            ((either((call(0), GROWN)),),), ((either((call(0), call(0), GROWN)),),), ((again(GROWN, call(0)),),),
            ((again(call(0), GROWN),),), ((either((GROWN, call(0), ASK)),),), ((either((ASK, call(0), GROWN)),),),
            ((either((call(1),)),), (either((call(0),)), GROWN)),
            ((call(1),), (either((call(2),)), GROWN), (ASK, either((call(1),)))),
            ((call(1), ASK), (either((call(2), note("y"))), note("x", "x", "y")), (either((call(1),)), ("copy", "y", "x"))),
            ((again(either((GROWN,), (ASK,))),),), ((again(again(GROWN), ASK),),), ((again(again(ASK, call(1)), GROWN),), (GROWN,)),
            ((either((call(0), note("x", "y"), ("copy", "y", "x"))),),),
        ):
            found = book_ring(Book(blocks))
            self.assertIs(is_book_ring(Book(blocks), found), True, blocks)
            self.assertTrue(plainly_book_ring(blocks, found), blocks)
            self.assertIsNone(plain_book_shapes(blocks, 25), blocks)

    def test_on_the_way_in_alone(self):
        # What was noted on the way in is asked at the end.
        found = book_ring(Book(((either((GROWN, call(0))), ASK),)))
        self.assertEqual((found[0], found[1]), ("there", (0, -1)))
        self.assertIsNone(book_ring(Book(((either((ASK, GROWN, call(0))), ASK),))))

    def test_on_the_way_back_alone(self):
        found = book_ring(Book(((ASK, either((call(0), GROWN))),)))
        self.assertEqual((found[0], found[1]), ("back", (0, -1)))
        self.assertEqual(found[4], ("x",))
        self.assertIsNone(book_ring(Book(((ASK, either((call(0), GROWN, ASK))),))))

    def test_four_and_five_names(self):
        def loop(letters, last):
            return Book(((again(*(note(one, other) for one, other in zip(letters[1:], letters)), note(letters[0], last)),),))
        self.assertTrue(is_book_ring(loop("abcd", "d"), book_ring(loop("abcd", "d"))))
        self.assertIsNone(book_ring(Book((tuple(note(name, "a") for name in "bcd"),))))
        for book in (loop("abcde", "e"), Book((tuple(("ask", name) for name in "abcdefgh"),)),
                     Book(((call(1), ("ask", "a")), tuple(("ask", name) for name in "bcde")))):
            with self.assertRaises(TooMany) as caught:
                book_ring(book)
            self.assertEqual(caught.exception.most, 4)

    def test_equal_books_have_equal_rings(self):
        for blocks in some_books(30, 701, True):
            self.assertEqual(book_ring(Book(blocks)), book_ring(Book(blocks)))


class IsBookRing(unittest.TestCase):
    def test_rings(self):
        for book, found in ((BACK, BACK_RING), (THERE, THERE_RING), (LOOP, LOOP_RING)):
            self.assertIs(is_book_ring(book, found), True)
            kind, head, rows, k, lot = found
            for times in (2, 3, 40):
                for at in range(times):
                    self.assertIs(is_book_ring(book, (kind, head, rows * times, k + at * len(rows), lot)), True)

    def test_an_again_is_begun_by_calls_within_it_too(self):
        book = Book(((again(either((GROWN, call(0)))),),))
        for rows, k in ((((0, 0), (0, 1), (0, 2), (0, 3)), 2), (((0, 0), (0, 1), (0, 2), (0, 3), (0, 0), (0, 1)), 2)):
            self.assertIs(is_book_ring(book, ("there", (0, 0), rows, k, ("x",))), True)
        self.assertIs(is_book_ring(book, ("there", (0, -1), ((0, 0), (0, 1), (0, 2), (0, 3)), 2, ("x",))), True)
        self.assertIs(is_book_ring(book, ("there", (0, 0), ((0, 0), (0, 1)), 0, ("x",))), False)

    def test_the_name_need_not_be_in_the_lot(self):
        book = Book(((either((call(0), note("x"), note("y", "x", "y"), ("give", "x", 0))),),))
        rows = ((0, 2), (0, 3), (0, 4))
        self.assertIs(is_book_ring(book, ("back", (0, -1), rows, 0, ("y",))), True)
        self.assertIs(is_book_ring(book, ("back", (0, -1), rows, 1, ("y",))), True)
        self.assertIs(is_book_ring(book, ("back", (0, -1), rows, 0, ("x", "y"))), False)
        self.assertIs(is_book_ring(book, ("back", (0, -1), rows, 2, ("y",))), False)

    def test_what_is_none(self):
        kind, head, rows, k, lot = BACK_RING
        for thing in (
            ("there", head, rows, k, lot), ("Back", head, rows, k, lot), (b"back", head, rows, k, lot), ("", head, rows, k, lot),
            (kind, (0, -1), rows, k, lot), (kind, (1, 0), rows, k, lot), (kind, (True, -1), rows, k, lot), (kind, 1, rows, k, lot),
            (kind, [1, -1], rows, k, lot), (kind, (2, -1), rows, k, lot), (kind, head, (), k, lot), (kind, head, list(rows), k, lot),
            (kind, head, ((1, 1),), k, lot), (kind, head, rows, 1, lot), (kind, head, rows, -1, lot), (kind, head, rows, False, lot),
            (kind, head, rows, "0", lot), (kind, head, rows, None, lot), (kind, head, rows, k, ()), (kind, head, rows, k, ["t"]),
            (kind, head, rows, k, "t"), (kind, head, rows, k, ("u",)), (kind, head, rows, k, ("t", "t")),
            (kind, head, rows, k, None), (kind, head, rows, k), (kind, head, rows, k, lot, 0), [kind, head, rows, k, lot],
            (kind, head, ([1, 2],), k, lot), (kind, head, ((1, True),), k, lot), (None,) * 5, ((),) * 5, (0,) * 5,
        ):
            with self.subTest(thing=thing):
                self.assertIs(is_book_ring(BACK, thing), False)
        kind, head, rows, k, lot = THERE_RING
        for thing in (("back", head, rows, k, lot), (kind, (0, -1), rows, k, lot), (kind, head, rows, 0, lot),
                      (kind, head, rows, 2, lot), (kind, head, rows, 3, lot), (kind, head, rows[1:], 0, lot),
                      (kind, head, rows[:-1], k, lot), (kind, head, rows, True, lot)):
            self.assertIs(is_book_ring(THERE, thing), False)
        for head in ((0, -1), (0, 0), (0, 2), (0, True), (True, 1)):
            self.assertIs(is_book_ring(LOOP, ("there", head) + LOOP_RING[2:]), False)
        self.assertIs(is_book_ring(LOOP, ("back",) + LOOP_RING[1:]), False)

    def test_lots_that_are_asked_or_gone(self):
        for row in (ASK, ("print", "x"), ("give", "x", 0), note("x")):
            book = Book(((either((call(0), GROWN, row)),),))
            for lot in ((), ("x",), None):
                self.assertIs(is_book_ring(book, ("back", (0, -1), ((0, 2), (0, 3)), 0, lot)), False)

    def test_objects_of_all_kinds(self):
        for book, (kind, head, rows, k, lot) in ((BACK, BACK_RING), (THERE, THERE_RING), (LOOP, LOOP_RING)):
            for thing in anything():
                self.assertIs(is_book_ring(book, thing), False)
                for five in ((thing, head, rows, k, lot), (kind, thing, rows, k, lot), (kind, head, thing, k, lot),
                             (kind, head, rows, thing, lot), (kind, head, rows, k, thing), (kind, head, rows, k, (thing,)),
                             (kind, head, rows + (thing,), k, lot), (kind, (thing, -1), rows, k, lot), (thing,) * 5):
                    self.assertIs(is_book_ring(book, five), False)
                self.assertIs(is_book_ring(book, (kind, (head[0], thing), rows, k, lot)), thing == -1 == head[1])

    def test_more_than_four_names_are_no_matter(self):
        rows = tuple(note(name, "h") for name in "abcdefgh")
        book = Book(((either((call(0),) + rows),),))
        places = tuple((0, place) for place in range(2, 10))
        found = ("back", (0, -1), places, 7, tuple("h"))
        self.assertIs(is_book_ring(book, found), False)
        self.assertIs(is_book_ring(book, ("back", (0, -1), places * 2, 7, tuple("abcdefgh"))), True)
        self.assertGreaterEqual(len(book_told(book, ring_steps(
            book, ("back", (0, -1), places * 2, 7, tuple("abcdefgh")), 5), TERMS).waiting()), 6)


class RingSteps(unittest.TestCase):
    def waiting(self, book, found, times):
        steps = ring_steps(book, found, times)
        self.assertIs(type(steps), tuple)
        run = book_told(book, steps, {op: lambda row: 0 for op in ("f", "g", "h")})
        return len(run.waiting())

    def test_how_often_it_is_gone(self):
        for book, found in ((BACK, BACK_RING), (THERE, THERE_RING), (LOOP, LOOP_RING)):
            for times in (0, 1, 2, 17, 200):
                self.assertEqual(self.waiting(book, found, times), times + 1)

    def test_longer_rings_are_gone_as_they_are(self):
        for book, (kind, head, rows, k, lot) in ((BACK, BACK_RING), (THERE, THERE_RING), (LOOP, LOOP_RING)):
            for many in (2, 3, 25):
                for times in (0, 3, 200):
                    self.assertGreaterEqual(self.waiting(book, (kind, head, rows * many, k, lot), times), times + 1)

    def test_rings_behind_many_calls(self):
        book = Book(((call(1), call(1)), (either(()), call(2), ASK), (call(3),), (either((call(3), GROWN)),)))
        self.assertGreaterEqual(self.waiting(book, book_ring(book), 9), 10)
        self.assertGreaterEqual(self.waiting(book, ("back", (3, -1), ((3, 2), (3, 2)), 1, ("x",)), 200), 201)
        book = Book(((call(1), call(2)), (ASK, ASK), (call(1), call(3)), (call(1), again(call(1), GROWN, again(ASK)))))
        self.assertIsNone(book_ring(book))
        book = Book(((call(1), call(2)), (("ask", "y"), ASK), (call(1), call(3)), (call(1), again(("ask", "y"), GROWN))))
        found = book_ring(book)
        self.assertEqual((found[0], found[1]), ("there", (3, 1)))
        self.assertGreaterEqual(self.waiting(book, found, 30), 31)

    def test_backs_of_those_farther_around(self):
        book = Book(((call(1),), (either((call(2), note("x", "x"))),), (either((call(1), note("x", "x")), ()),)))
        for found in (("back", (1, -1), ((2, 2), (1, 2)), 0, ("x",)), ("back", (1, -1), ((2, 2), (1, 2)) * 3, 5, ("x",)),
                      ("back", (2, -1), ((1, 2), (2, 2)), 1, ("x",))):
            self.assertTrue(is_book_ring(book, found))
            for times in (0, 1, 20, 200):
                self.assertGreaterEqual(self.waiting(book, found, times), times + 1)

    def test_next_places_that_look_alike(self):
        book = Book(((call(1),), (again(again(GROWN, call(1))),)))
        rows = ((1, 0), (1, 1), (1, 2), (1, 3))
        for more in ((), ((1, 0), (1, 1)), ((1, 0), (1, 1)) * 3 + ((1, 2), (1, 3))):
            for head in heads_of(book.blocks):
                for k in (2, len(rows) + 2):
                    found = ("there", head, rows * 3 + more, k, ("x",))
                    self.assertIs(is_book_ring(book, found), plainly_book_ring(book.blocks, found))
                    if is_book_ring(book, found):
                        self.assertGreaterEqual(self.waiting(book, found, 6), 7)

    def test_no_ring(self):
        for thing in [None, BACK_RING[:4], list(BACK_RING), BACK_RING[:4] + ((),), THERE_RING] + anything():
            for times in (0, 1, -1, 201, None, True):
                with self.subTest(thing=type(thing)), self.assertRaises(NoRing):
                    ring_steps(BACK, thing, times)

    def test_no_number(self):
        for times in [-1, 201, True, False, "1", (1,), [1], None] + [thing for thing in anything() if thing != 99]:
            for book, found in ((BACK, BACK_RING), (THERE, THERE_RING)):
                with self.subTest(times=type(times)), self.assertRaises(NoNumber):
                    ring_steps(book, found, times)


class SixthFact(unittest.TestCase):
    def assert_leads_there(self, blocks, found):
        book = Book(blocks)
        self.assertIs(is_book_ring(book, found), True, blocks)
        if len(found[2]) <= 60:
            self.assertTrue(plainly_book_ring(blocks, found), (blocks, found))
        for times in (0, 1, 7):
            run = book_told(book, ring_steps(book, found, times), TERMS_OF_NOTHING)
            self.assertGreaterEqual(len(run.waiting()), times + 1, (blocks, found))

    def test_drawn_books_both_ways(self):
        counted = {"there": 0, "back": 0, None: 0}
        for blocks in some_books(350, 702, True, most_blocks=3) + some_books(200, 703) + some_books(60, 704, most_names=4):
            found = book_ring(Book(blocks))
            counted[found and found[0]] += 1
            if found is None:
                # There is no end of the shapes, or many, if they pile up; without knots there may be many all the same.
                expected = plain_book_shapes(blocks, 400)
                self.assertTrue(expected is not None or not plain_knotted(blocks), blocks)
            else:
                self.assert_leads_there(blocks, found)
        self.assertGreater(min(counted.values()), 40)

    def test_two_hundred_times(self):
        for blocks in some_books(60, 705, True):
            found = book_ring(Book(blocks))
            if found is not None:
                run = book_told(Book(blocks), ring_steps(Book(blocks), found, 200), TERMS_OF_NOTHING)
                self.assertGreaterEqual(len(run.waiting()), 201)

    def test_books_without_knots_as_the_programs_put_in(self):
        counted = {True: 0, False: 0}
        for blocks in some_books(300, 706, False) + tuple_of_loops(150, 707):
            wide, found = put_in(Book(blocks)), book_ring(Book(blocks))
            self.assertEqual(found is None, ring(wide) is None, blocks)
            counted[found is None] += 1
            if found is not None:
                self.assertEqual(found[0], "there")
                self.assert_leads_there(blocks, found)
        self.assertGreater(min(counted.values()), 60)

    def test_a_change_of_a_ring_is_one_just_if_it_is_plainly(self):
        chance = random.Random(708)
        counted = {True: 0, False: 0}
        for blocks in some_books(200, 709, True, most_blocks=3):
            book = Book(blocks)
            found = book_ring(book)
            if found is None or len(found[2]) > 12:
                continue
            kind, head, rows, k, lot = found
            places = [(n, place) for n, block in enumerate(blocks) for place in range(len(rows_in(block)))]
            things = [(kind, head, rows * 2, k + at, lot) for at in range(-k, 2 * len(rows) - k)]
            things += [(other, each, rows, k, lot) for other in ("there", "back") for each in heads_of(blocks)]
            for name in plain_book_names(blocks):
                things.append((kind, head, rows, k, tuple(sorted(set(lot) ^ {name}))))
            for _ in range(8):
                at = chance.randrange(len(rows) + 1)
                changed = rows[:at] + (chance.choice(places),) + rows[at + chance.randint(0, 1) :]
                things.append((kind, head, changed, k, lot))
            for thing in things:
                expected = plainly_book_ring(blocks, thing)
                self.assertIs(is_book_ring(book, thing), expected, (blocks, thing))
                counted[expected] += 1
                if expected and chance.random() < 0.2:
                    self.assert_leads_there(blocks, thing)
        self.assertGreater(min(counted.values()), 200)

    def test_runs_of_books_without_rings_are_bounded(self):
        chance = random.Random(710)
        for blocks in some_books(150, 711, True):
            if book_ring(Book(blocks)) is not None:
                continue
            most = max(len(notes) for heads, notes in plain_book_shapes(blocks, 1000))
            run = BookRun(Book(blocks), TERMS_OF_NOTHING)
            for _ in range(150):
                self.assertLessEqual(len(run.waiting()), most)
                if not run.pile():
                    break
                row = rows_in(blocks[run.pile()[-1][0]])[run.pile()[-1][1]]
                run.step(chance.randrange(2) if row[0] in ("either", "again") else 0)


TERMS_OF_NOTHING = {op: lambda row: 0 for op in TERMS}


def plain_knotted(blocks):
    return any(row == ("call", m) for n, block in enumerate(blocks) for row in rows_in(block) for m in range(n + 1))


def tuple_of_loops(many, seed):
    """Books of two blocks: one with loops of choices, that is called ahead of a loop and within it."""
    return [((call(1), again(call(1), GROWN if at % 2 else ("copy", "x", "a"))), block)
            for at, block in enumerate(loopy_blocks(many, seed)) if len(set(plain_book_names((block, (ASK,))))) <= 4]


class Names(unittest.TestCase):
    def test_names_of_books(self):
        self.assertEqual(book_names(BACK), ("t",))


if __name__ == "__main__":
    unittest.main()
