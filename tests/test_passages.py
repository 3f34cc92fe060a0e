"""Promises 0.2 to 0.5 and 10.1: heads, theres and backs, and what rows make of lots."""

import random
import unittest

from odd import anything
from reference_books import plain_book_names, rows_in, some_books
from reference_passages import Watched, heads_of, plain_back, plain_there
from reference_piles import plain_lot
from rows import ASK, call, either, again, note
from putoffpiles.books import Book, as_book
from putoffpiles.bookruns import BookRun, book_told
from putoffpiles.errors import NoHead, NoLot, NoRows
from putoffpiles.holders import holders
from putoffpiles.passages import is_back, is_there, row_holders
from putoffpiles.programs import Program, is_way
from putoffpiles.tracks import back_track, there_track


# A block that calls itself ahead of a note or not, from the examples.
BACK = Book(((("give", "t", 0), call(1), ("print", "t")), (either((call(1), note("t", "t"))),)))
# An again within an again: from the row of the outer one both next places can look alike.
WITHIN = Book(((call(1),), (again(again(call(1))),)))


class Theres(unittest.TestCase):
    def test_of_a_block(self):
        for many in (1, 2, 50):
            self.assertIs(is_there(BACK, (1, -1), ((1, 0), (1, 1)) * many), True)
        for rows in ((), ((1, 0),), ((1, 1),), ((1, 1), (1, 0)), ((1, 0), (1, 2)), ((1, 0), (1, 1), (1, 0)), ((0, 1),),
                     ((0, 0), (0, 1)), ((1, 0), (1, 0), (1, 1)), ((1, 0), (1, 1), (1, 1)), ((0, 1), (1, 0), (1, 1)),
                     ((1, 0), (1, 1), (1, 0), (1, 2), (1, 0), (1, 1))):
            self.assertIs(is_there(BACK, (1, -1), rows), False)

    def test_of_main(self):
        for rows in ((), ((0, 0),), ((0, 0), (0, 1)), ((0, 1),)):
            self.assertIs(is_there(BACK, (0, -1), rows), False)
        book = Book(((ASK, either((call(0), ASK))),))
        self.assertIs(is_there(book, (0, -1), ((0, 0), (0, 1), (0, 2))), True)
        self.assertIs(is_there(book, (0, -1), ((0, 0), (0, 1), (0, 2), (0, 0), (0, 1), (0, 2))), True)
        self.assertIs(is_there(book, (0, -1), ((0, 0), (0, 1), (0, 2), (0, 0), (0, 1), (0, 3))), False)
        self.assertIs(is_there(book, (0, -1), ((0, 0), (0, 1), (0, 3))), False)

    def test_of_the_last_call_alone(self):
        book = Book(((call(1),), (again(call(1)), call(2)), (either((call(2),)),)))
        self.assertIs(is_there(book, (2, -1), ((2, 0), (2, 1))), True)
        alone = Book(((again(call(1)),), (either((), (call(0),)),)))
        self.assertIs(is_there(alone, (1, -1), ((1, 0), (1, 1), (0, 0), (0, 1))), True)
        self.assertIs(is_there(alone, (0, -1), ((0, 0), (0, 1), (1, 0), (1, 1))), True)
        self.assertIs(is_there(alone, (1, -1), ((1, 0), (1, 1), (0, 0), (0, 1), (1, 0), (0, 0), (0, 1))), True)
        self.assertIs(is_there(Book(((either((call(0),)),),)), (0, -1), ((0, 1),)), False)

    def test_calls_that_are_over_and_calls_that_are_open(self):
        book = Book(((call(1),), (either((call(2), call(1), call(2))),), (note("x"),)))
        self.assertTrue(is_there(book, (1, -1), ((1, 0), (1, 1), (2, 0), (1, 2))))
        # The inner call of 1 is over, and then the one that was open first ends, too.
        inner = ((1, 0), (1, 1), (2, 0), (1, 2))
        self.assertFalse(is_there(book, (1, -1), inner + ((1, 0), (1, 3), (2, 0)) + inner))
        self.assertTrue(is_there(book, (1, -1), inner * 3))
        twice = Book(((call(1),), (either((call(1), call(1))),)))
        self.assertTrue(is_there(twice, (1, -1), ((1, 0), (1, 1), (1, 0), (1, 2))))
        self.assertTrue(is_there(twice, (1, -1), ((1, 0), (1, 1), (1, 0), (1, 2), (1, 0), (1, 1), (1, 0), (1, 1))))
        self.assertFalse(is_there(twice, (1, -1), ((1, 0), (1, 2))))

    def test_of_an_empty_block(self):
        book = Book(((again(call(1)), call(1)), ()))
        for rows in ((), ((0, 1),), ((0, 1), (0, 0), (0, 1)), ((0, 0), (0, 1))):
            self.assertIs(is_there(book, (1, -1), rows), False)
            self.assertIs(is_back(book, 1, rows), False)
        self.assertIs(is_there(Book(((),)), (0, -1), ()), False)
        self.assertIs(is_back(Book(((),)), 0, ()), False)

    def test_of_an_again(self):
        book = as_book(Program((ASK, again(ASK, ASK), ASK)))
        for many in (1, 2, 30):
            self.assertIs(is_there(book, (0, 1), ((0, 1), (0, 2), (0, 3)) * many), True)
        for rows in ((), ((0, 1),), ((0, 2), (0, 3)), ((0, 1), (0, 2)), ((0, 1), (0, 4)), ((0, 1), (0, 2), (0, 3), (0, 1)),
                     ((0, 2), (0, 3), (0, 1)), ((0, 0), (0, 1), (0, 2), (0, 3)), ((0, 1), (0, 3))):
            self.assertIs(is_there(book, (0, 1), rows), False)

    def test_of_an_empty_again(self):
        book = as_book(Program((again(),)))
        for many in (1, 2, 9):
            self.assertIs(is_there(book, (0, 0), ((0, 0),) * many), True)
        self.assertIs(is_there(book, (0, 0), ()), False)
        calls = Book(((again(call(1)),), ()))
        self.assertIs(is_there(calls, (0, 0), ((0, 0), (0, 1)) * 3), True)
        self.assertIs(is_there(calls, (0, 0), ((0, 0),)), False)

    def test_an_again_that_has_ended(self):
        book = as_book(Program((again(again(ASK), ASK),)))
        self.assertIs(is_there(book, (0, 1), ((0, 1), (0, 2))), True)
        self.assertIs(is_there(book, (0, 1), ((0, 1), (0, 3), (0, 0))), False)
        self.assertIs(is_there(book, (0, 1), ((0, 1), (0, 2), (0, 1), (0, 3), (0, 0))), False)
        self.assertIs(is_there(book, (0, 0), ((0, 0), (0, 1), (0, 3))), True)
        self.assertIs(is_there(book, (0, 0), ((0, 0), (0, 1), (0, 2), (0, 1), (0, 3))), True)

    def test_an_again_that_begins_within_calls(self):
        book = Book(((call(1),), (again(either((call(1),))), note("x"))))
        self.assertIs(is_there(book, (1, 0), ((1, 0), (1, 1), (1, 2))), True)
        self.assertIs(is_there(book, (1, 0), ((1, 0), (1, 1))), True)
        self.assertIs(is_there(book, (1, 0), ((1, 0), (1, 1), (1, 2), (1, 0), (1, 3))), True)
        # Both are left; then the first one has ended.
        self.assertIs(is_there(book, (1, 0), ((1, 0), (1, 1), (1, 2), (1, 0), (1, 3), (1, 0), (1, 3))), False)
        self.assertIs(is_there(book, (1, 0), ((1, 0), (1, 1), (1, 2), (1, 0), (1, 3), (1, 0), (1, 1), (1, 2))), True)

    def test_next_places_that_look_alike(self):
        rows = ((1, 0), (1, 1), (1, 2))
        self.assertIs(is_there(WITHIN, (1, -1), rows * 4), True)
        # The row (1, 0) may lead to (1, 1) of its own block, or end this, and lead to that of the one around.
        for rest in (((1, 0), (1, 1)), ((1, 0), (1, 1), (1, 0), (1, 1), (1, 2)), ((1, 0), (1, 1)) * 9 + ((1, 2),)):
            for head in heads_of(WITHIN.blocks):
                self.assertIs(is_there(WITHIN, head, rows * 4 + rest), plain_there(WITHIN.blocks, head, rows * 4 + rest))
            self.assertIs(is_back(WITHIN, 1, rest), plain_back(WITHIN.blocks, 1, rest))
        self.assertIs(is_there(WITHIN, (1, -1), rows * 300), True)

    def test_thousands_of_rows(self):
        self.assertIs(is_there(BACK, (1, -1), ((1, 0), (1, 1)) * 5000), True)
        self.assertIs(is_there(BACK, (1, -1), ((1, 0), (1, 1)) * 5000 + ((1, 0),)), False)
        plain = as_book(Program((again(ASK),)))
        self.assertIs(is_there(plain, (0, 0), ((0, 0), (0, 1)) * 5000), True)
        deep = Book(((either((call(0),)), ),))
        self.assertIs(is_there(deep, (0, -1), ((0, 0), (0, 1)) * 5000), True)
        self.assertIs(is_back(deep, 0, ()), True)


class Backs(unittest.TestCase):
    def test_of_a_block(self):
        for many in (1, 2, 60):
            self.assertIs(is_back(BACK, 1, ((1, 2),) * many), True)
        for rows in ((), ((1, 1),), ((1, 0),), ((1, 2), (0, 2)), ((0, 2),), ((1, 2), (1, 0)), ((1, 0), (1, 2)),
                     ((1, 1), (1, 2)), ((1, 2), (1, 1))):
            self.assertIs(is_back(BACK, 1, rows), False)

    def test_of_a_block_that_does_not_lead_to_itself(self):
        for rows in ((), ((0, 2),), ((1, 2),), ((0, 1),)):
            self.assertIs(is_back(BACK, 0, rows), False)

    def test_empty_backs(self):
        self.assertIs(is_back(Book(((either((call(0),)),),)), 0, ()), True)
        self.assertIs(is_back(Book(((either((call(0), ASK)),),)), 0, ()), False)
        self.assertIs(is_back(Book(((either((call(0), ASK)),),)), 0, ((0, 2),)), True)
        chain = Book(((call(1),), (either((call(2),)),), (ASK, either((ASK,), (call(1),)))))
        self.assertIs(is_back(chain, 1, ()), True)
        self.assertIs(is_back(chain, 2, ()), True)
        self.assertIs(is_back(chain, 1, ((2, 2),)), False)

    def test_what_is_done_within_the_open_ones(self):
        book = Book(((either((call(0), call(1), ASK)),), (note("x"),)))
        self.assertIs(is_back(book, 0, ((0, 2), (1, 0), (0, 3))), True)
        self.assertIs(is_back(book, 0, ((0, 2), (0, 3))), False)
        self.assertIs(is_back(book, 0, ((0, 2), (1, 0), (0, 3), (0, 2), (1, 0), (0, 3))), True)
        twice = Book(((call(1),), (either((call(1), call(1))),)))
        # From the first call's end: the second call, through it, and the end.
        self.assertIs(is_back(twice, 1, ((1, 2), (1, 0))), True)
        self.assertIs(is_back(twice, 1, ()), True)
        self.assertIs(is_back(twice, 1, ((1, 2),)), False)
        self.assertIs(is_back(twice, 1, ((1, 2), (1, 0), (1, 1), (1, 0), (1, 2), (1, 0))), True)

    def test_behind_calls_within_an_again(self):
        book = Book(((again(either((call(0), ASK))),),))
        self.assertIs(is_back(book, 0, ((0, 3), (0, 0))), True)
        self.assertIs(is_back(book, 0, ((0, 3),)), False)
        self.assertIs(is_back(book, 0, ((0, 3), (0, 0), (0, 1), (0, 0))), True)
        self.assertIs(is_back(book, 0, ((0, 3), (0, 0), (0, 1), (0, 2), (0, 0), (0, 3), (0, 0))), True)
        self.assertIs(is_back(book, 0, ((0, 3), (0, 0), (0, 1), (0, 2), (0, 3), (0, 0))), False)

    def test_those_that_are_open_farther_around(self):
        book = Book(((call(1),), (either((call(2), note("x"))),), (either((call(1), note("y")), ()),)))
        self.assertIs(is_back(book, 1, ((2, 2), (1, 2))), True)
        self.assertIs(is_back(book, 2, ((1, 2), (2, 2))), True)
        self.assertIs(is_back(book, 1, ((2, 2), (1, 2)) * 2), True)
        self.assertIs(is_back(book, 1, ((2, 2),)), False)
        self.assertIs(is_back(book, 2, ((2, 2), (1, 2))), False)


class Wrong(unittest.TestCase):
    def test_no_head(self):
        rows = ((1, 0), (1, 1))
        for head in [(2, -1), (-1, -1), (1, 0), (1, 1), (1, -2), (0, 3), (True, -1), (False, -1), (1, True), (1, None), [1, -1],
                     (1,), (1, -1, 0), "1", 1, ("1", -1), (1, "-1"), ((1, -1),), (1, (-1,))] + anything():
            for thing in (rows, (), None):
                with self.subTest(head=type(head)), self.assertRaises(NoHead):
                    is_there(BACK, head, thing)
        with self.assertRaises(NoHead):
            is_there(WITHIN, (1, 2), ())
        with self.assertRaises(NoHead):
            is_there(WITHIN, (1, False), ())
        self.assertIs(is_there(WITHIN, (1, 1), ((1, 1), (1, 2), (1, 0))), True)

    def test_no_number_of_a_block(self):
        for n in [2, -1, True, False, "1", (1,), [1], None] + anything():
            for thing in (((1, 2),), (), None):
                with self.subTest(n=type(n)), self.assertRaises(NoHead):
                    is_back(BACK, n, thing)

    def test_objects_of_all_kinds(self):
        for thing in anything() + [[(1, 0), (1, 1)], ([1, 0], [1, 1]), ((True, 0), (1, 1)), ((1, False), (1, True)),
                                   ((1, 0), (1, True)), ((1, 0, 0), (1, 1)), ((1, 0), (1, 3)), ((1, 0), (2, 0)),
                                   ((1, 0), (1, -1)), ((-1, 0), (1, 1)), (1, 0), "1011"]:
            self.assertIs(is_there(BACK, (1, -1), thing), False)
            self.assertIs(is_there(WITHIN, (1, 0), thing), False)
            if thing != ():
                self.assertIs(is_back(BACK, 1, thing), False)
                self.assertIs(is_back(WITHIN, 1, thing), False)
        for thing in anything():
            for rows in (((1, 0), thing), (thing, (1, 1)), ((1, 0), (1, 1), thing), ((1, 0), (thing, 1)), ((1, thing), (1, 1))):
                self.assertIs(is_there(BACK, (1, -1), rows), False)
                self.assertIs(is_back(BACK, 1, rows), False)
            self.assertIs(is_back(BACK, 1, ((1, 2), thing)), False)
            self.assertIs(is_back(BACK, 1, ((1, 2), (1, thing))), False)


class RowHolders(unittest.TestCase):
    BOOK = Book(((note("x", "y"), call(1), ("copy", "z", "x")), (ASK, ("give", "x", 1), either((("print", "z"),)))))

    def test_rows(self):
        for rows, lot, expected in (
            ((), (), ()), ((), ("x", "z"), ("x", "z")), (((0, 0),), ("y",), ("x", "y")), (((0, 0),), ("x",), ()),
            (((0, 1),), ("x",), ("x",)), (((0, 1), (0, 1), (1, 2)), ("x", "y"), ("x", "y")), (((0, 2),), ("x",), ("x", "z")),
            (((1, 0),), ("x",), None), (((1, 0),), ("y",), ("y",)), (((1, 1), (1, 0)), ("x", "y"), ("y",)),
            (((0, 2), (1, 3)), ("x",), None), (((1, 3), (0, 2)), ("z",), None), (((1, 0), (1, 1)), (), ()),
        ):
            self.assertEqual(row_holders(self.BOOK, rows, lot), expected, (rows, lot))

    def test_rows_that_are_done_in_no_run(self):
        self.assertEqual(row_holders(self.BOOK, ((0, 2), (0, 0), (1, 1), (0, 2)) * 900, ("y",)), ("y",))

    def test_no_rows(self):
        for rows in [[(0, 0)], ((0, 3),), ((2, 0),), ((-1, 0),), ((0, -1),), ((True, 0),), ((0, False),), ([0, 0],), (0, 0),
                     ((0, 0), None), ((0, 0, 0),), "00"] + anything():
            if rows == ():
                continue
            for lot in (("x",), None, ("nobody",)):
                with self.subTest(rows=type(rows)), self.assertRaises(NoRows):
                    row_holders(self.BOOK, rows, lot)
        for thing in anything():
            for rows in ((thing,), ((0, 0), thing), ((0, thing),), ((thing, 0),)):
                with self.assertRaises(NoRows):
                    row_holders(self.BOOK, rows, ("x",))

    def test_no_lot(self):
        for lot in [("y", "x"), ("x", "x"), ["x"], "x", ("u",), ("x", "u"), ("f",), (b"x",), ("x", None), None] + anything():
            if lot == ():
                continue
            for rows in ((), ((0, 0),), ((1, 0),)):
                with self.subTest(lot=type(lot)), self.assertRaises(NoLot):
                    row_holders(self.BOOK, rows, lot)

    def test_drawn_rows(self):
        chance = random.Random(601)
        gone = 0
        for blocks in some_books(150, 602):
            book, owners = Book(blocks), plain_book_names(blocks)
            places = [(n, place) for n, block in enumerate(blocks) for place in range(len(rows_in(block)))]
            for _ in range(10):
                rows = tuple(chance.choice(places) for _ in range(chance.randint(0, 8))) if places else ()
                lot = tuple(name for name in owners if chance.random() < 0.5)
                expected = frozenset(lot)
                for n, place in rows:
                    expected = expected if expected is None else plain_lot(rows_in(blocks[n])[place], expected)
                gone += expected is None
                self.assertEqual(row_holders(book, rows, lot), expected if expected is None else tuple(sorted(expected)))
        self.assertGreater(gone, 50)

    def test_as_holders_tells(self):
        program = Program((note("x", "y"), again(("copy", "y", "x"), either((ASK,))), ("print", "y")))
        for way in ((0, 1, 2, 3, 1, 5), (0, 1, 2, 3, 4), (1, 2, 3), (2, 3, 1, 5, 6)):
            self.assertTrue(is_way(program, way))
            for lot in ((), ("x",), ("y",), ("x", "y")):
                self.assertEqual(row_holders(as_book(program), tuple((0, at) for at in way[:-1]), lot),
                                 holders(program, way, lot))


class Drawn(unittest.TestCase):
    def watched(self, blocks, chance, many):
        watched = Watched(blocks)
        for _ in range(many):
            if not watched.run.choices():
                break
            watched.step(chance.randrange(watched.run.choices()))
        return watched

    def test_whatever_a_run_tells_is_one(self):
        chance = random.Random(603)
        theres = backs = 0
        for blocks in some_books(250, 604, True) + some_books(100, 605):
            book = Book(blocks)
            for _ in range(5):
                watched = self.watched(blocks, chance, 40)
                for head, found in watched.theres.items():
                    for rows in found:
                        self.assertIs(is_there(book, head, rows), True, (blocks, head, rows))
                        theres += 1
                for n, found in watched.backs.items():
                    for rows in found:
                        self.assertIs(is_back(book, n, rows), True, (blocks, n, rows))
                        backs += 1
        self.assertGreater(theres, 5000)
        self.assertGreater(backs, 500)

    def changed(self, rows, places, chance):
        """The rows with one item exchanged, left out or put in."""
        at = chance.randrange(len(rows) + 1)
        put = (chance.choice(places),) if chance.random() < 0.8 else ()
        return rows[:at] + put + rows[at + chance.randint(0, 1) :]

    def test_against_a_plain_search(self):
        chance = random.Random(606)
        counted = {}
        for blocks in some_books(450, 607, True, most_blocks=3) + some_books(50, 608):
            book = Book(blocks)
            places = [(n, place) for n, block in enumerate(blocks) for place in range(len(rows_in(block)))]
            watched = self.watched(blocks, chance, 25)
            right = sorted({rows for found in watched.theres.values() for rows in found}
                           | {rows for found in watched.backs.values() for rows in found} | {()})
            for rows in [rows for rows in right if len(rows) <= 14][:12]:
                for thing in [rows] + ([self.changed(rows, places, chance) for _ in range(3)] if places else []):
                    for head in heads_of(blocks):
                        expected = plain_there(blocks, head, thing)
                        self.assertIs(is_there(book, head, thing), expected, (blocks, head, thing))
                        counted["there", expected] = counted.get(("there", expected), 0) + 1
                    for n in range(len(blocks)):
                        expected = plain_back(blocks, n, thing)
                        self.assertIs(is_back(book, n, thing), expected, (blocks, n, thing))
                        counted["back", expected] = counted.get(("back", expected), 0) + 1
        self.assertGreater(min(counted.values()), 500)

    def test_steps_of_tracks_do_the_rows(self):
        chance = random.Random(609)
        counted = 0
        for blocks in some_books(150, 610, True, most_blocks=3):
            book = Book(blocks)
            watched = self.watched(blocks, chance, 40)
            for (n, place), found in watched.theres.items():
                for rows in sorted(found)[:6]:
                    track, spot = there_track(book, (n, place), rows)
                    steps, calls = track.unwound(spot)
                    run = self.standing(book, n, max(place, 0))
                    before = len(run.rows())
                    for which in steps:
                        run.step(which)
                    self.assertEqual((run.rows()[before:], calls), (rows, []))
                    self.assertEqual(run.pile()[-1], (n, max(place, 0)))
                    counted += 1
            for n, found in watched.backs.items():
                for rows in sorted(found)[:6]:
                    track, spot = back_track(book, n, rows)
                    steps, calls = track.unwound(spot)
                    self.assertEqual(len(steps), len(rows))
                    self.assertEqual((calls[0][0], rows_in(blocks[calls[-1][0]])[calls[-1][1]]), (n, ("call", n)))
                    for one, other in zip(calls, calls[1:]):
                        self.assertEqual(rows_in(blocks[one[0]])[one[1]], ("call", other[0]))
                    counted += 1
        self.assertGreater(counted, 300)

    def standing(self, book, n, place):
        """A run that stands at a place of a block, found step by step."""
        ahead, seen = [()], set()
        while ahead:
            steps = ahead.pop(0)
            run = book_told(book, steps, {op: len for op in "fgh"})
            if not run.pile() or (run.pile()[-1], len(run.pile())) in seen:
                continue
            seen.add((run.pile()[-1], len(run.pile())))
            if run.pile()[-1] == (n, place):
                return run
            row = rows_in(book.blocks[run.pile()[-1][0]])[run.pile()[-1][1]]
            ahead.extend(steps + (which,) for which in ((0, 1) if row[0] in ("either", "again") else (0,)))
        self.fail("no run stands there")

    def test_equal_calls_give_equal_answers(self):
        run = BookRun(BACK, {"f": len})
        self.assertEqual([is_there(BACK, (1, -1), ((1, 0), (1, 1))) for _ in range(3)], [True] * 3)
        self.assertEqual(run.rows(), ())


if __name__ == "__main__":
    unittest.main()
