"""Promises 0.2 to 0.5 and 9.2: runs of books, with piles of open calls."""

import random
import unittest

from odd import anything
from reference import ReferenceRun, reference_nexts
from reference_books import PlainBookRun, plain_book_names, plain_put_in, rows_in, some_books
from reference_piles import TERMS
from rows import ASK, call, either, note
from strangers import Broken, Calls
from putoffpiles.books import Book, as_book, put_in
from putoffpiles.bookruns import BookRun, book_shape, book_told
from putoffpiles.errors import BadStep, IsOver, NoFunctions, NoName, NoNote, NoSteps, NothingDone
from putoffpiles.programs import Program, names, nexts, row_at
from putoffpiles.runs import Run, shape


def run_of(*blocks, functions=TERMS):
    return BookRun(Book(blocks), functions)


def stepped(run, *whiches):
    for which in whiches:
        run.step(which)
    return run


def seen(run, many=12):
    """All that a run tells."""
    notes = []
    for number in range(many):
        try:
            notes.append(run.note(number))
        except NoNote:
            notes.append(None)
    return (run.pile(), run.rows(), run.steps(), notes, run.waiting(), run.worked(), run.said(), book_shape(run))


class Piles(unittest.TestCase):
    def test_it_stands_at_the_beginning(self):
        run = run_of((ASK,))
        self.assertEqual(seen(run), (((0, 0),), (), (), [None] * 12, (), (), (), ((-1,), ())))

    def test_a_call_begins_its_block(self):
        run = run_of((ASK, call(1), ASK), (ASK, call(2)), (ASK, ASK))
        piles = []
        while run.pile():
            piles.append(run.pile())
            run.step(0)
        self.assertEqual(piles, [
            ((0, 0),), ((0, 1),), ((0, 1), (1, 0)), ((0, 1), (1, 1)), ((0, 1), (1, 1), (2, 0)), ((0, 1), (1, 1), (2, 1)),
            ((0, 2),)])
        self.assertEqual(run.rows(), ((0, 0), (0, 1), (1, 0), (1, 1), (2, 0), (2, 1), (0, 2)))
        self.assertEqual(run.steps(), (0,) * 7)

    def test_many_calls_are_over_at_once(self):
        run = stepped(run_of((call(1),), (call(2),), (call(3),), (ASK,)), 0, 0, 0)
        self.assertEqual(run.pile(), ((0, 0), (1, 0), (2, 0), (3, 0)))
        run.step(0)
        self.assertEqual(run.pile(), ())
        run.back()
        self.assertEqual(run.pile(), ((0, 0), (1, 0), (2, 0), (3, 0)))

    def test_blocks_that_are_over_at_once(self):
        run = run_of(())
        self.assertEqual((run.pile(), run.rows(), book_shape(run)), ((), (), ((), ())))
        with self.assertRaises(IsOver):
            run.step(0)
        run = stepped(run_of((call(1), call(1)), ()), 0)
        self.assertEqual((run.pile(), run.rows()), (((0, 1),), ((0, 0),)))
        run.step(0)
        self.assertEqual((run.pile(), run.rows()), ((), ((0, 0), (0, 1))))
        run.back()
        run.back()
        self.assertEqual((run.pile(), run.rows(), run.steps()), (((0, 0),), (), ()))
        run = stepped(run_of((either((), ()), call(1)), (either((), ()),)), 1, 0, 0)
        self.assertEqual((run.pile(), run.rows()), ((), ((0, 0), (0, 1), (1, 0))))

    def test_an_again_whose_block_calls(self):
        run = run_of((("again", (call(1),)), ASK), (ASK,))
        stepped(run, 0, 0, 0, 0, 0)
        self.assertEqual(run.pile(), ((0, 1), (1, 0)))
        stepped(run, 0, 1)
        self.assertEqual((run.pile(), run.steps()), (((0, 2),), (0, 0, 0, 0, 0, 0, 1)))
        run = stepped(run_of((("again", (call(1),)),), ()), 0, 0, 0, 0)
        self.assertEqual((run.pile(), run.rows()), (((0, 0),), ((0, 0), (0, 1), (0, 0), (0, 1))))

    def test_a_block_that_calls_itself(self):
        run = run_of((either((call(0), ASK)), ASK))
        stepped(run, 0, 0, 0, 0)
        self.assertEqual(run.pile(), ((0, 1), (0, 1), (0, 0)))
        stepped(run, 1)
        self.assertEqual(run.pile(), ((0, 1), (0, 1), (0, 3)))
        piles = []
        while run.pile():
            run.step(0)
            piles.append(run.pile())
        self.assertEqual(piles, [((0, 1), (0, 2)), ((0, 1), (0, 3)), ((0, 2),), ((0, 3),), ()])

    def test_a_call_changes_nothing_else(self):
        run = stepped(run_of((note("x"), call(1), ASK), (either((), ()),)), 0)
        before = seen(run)[3:]
        stepped(run, 0, 1)
        self.assertEqual(seen(run)[3:], before)
        self.assertEqual(run.worked(), ())
        run.step(0)
        self.assertEqual(run.worked(), (0,))

    def test_names_are_shared_by_all(self):
        run = run_of((("give", "x", 3), call(1), ("print", "x")), (note("x", "x"), note("y", "x")))
        stepped(run, 0, 0, 0, 0)
        self.assertEqual((run.held("x"), run.held("y"), run.waiting()), (("note", 0), ("note", 1), (0, 1)))
        run.step(0)
        self.assertEqual((run.said(), run.waiting(), run.pile()), ((("f", 3),), (1,), ()))


class Steps(unittest.TestCase):
    def test_they_return_none(self):
        run = run_of((call(1),), (ASK,))
        self.assertIsNone(run.step(0))
        self.assertIsNone(run.back())

    def test_bad_step(self):
        calls = Calls("f")
        run = run_of((call(1), either((ASK,)), note("x"), ("again", ()), ASK, ("print", "x"), ("give", "x", 1)),
                     (ASK,), functions=calls.functions)
        for which, bad in ((0, 1), (0, 1), (0, 2), (0, 1), (0, 1), (0, 2), (1, 2), (0, 1), (0, 1), (0, 1)):
            before, log = seen(run), list(calls.log)
            for thing in [bad, bad + 1] + anything():
                with self.subTest(which=type(which)), self.assertRaises(BadStep):
                    run.step(thing)
            self.assertEqual((seen(run), calls.log), (before, log))
            run.step(which)
        self.assertEqual(run.pile(), ())

    def test_is_over(self):
        run = stepped(run_of((call(1),), (("print", "x"),)), 0, 0)
        before = seen(run)
        for thing in [0, 1] + anything():
            with self.assertRaises(IsOver):
                run.step(thing)
        self.assertEqual(seen(run), before)

    def test_held_and_note_of_what_is_none(self):
        run = stepped(run_of((note("x", "z"), call(1)), (note("x"), ("ask", "y"))), 0, 0, 0)
        self.assertEqual([run.held(name) for name in "xyz"], [("note", 1), ("worth", 0), ("worth", 0)])
        for thing in ["f", "t", "call", "xx"] + anything():
            with self.assertRaises(NoName):
                run.held(thing)
        self.assertEqual(run.note(1), ("f", ()))
        for thing in [0, 2, -1, True, False] + anything():
            with self.assertRaises(NoNote):
                run.note(thing)

    def test_no_functions(self):
        book = Book(((call(1), note("x")), (("note", "x", "g", ()),)))
        for functions in [{}, {"f": len}, {"g": len}, ["f", "g"], "fg", {b"f": len, "g": len}, {"x": len}] + anything():
            with self.subTest(functions=type(functions)), self.assertRaises(NoFunctions):
                BookRun(book, functions)
        BookRun(book, {"f": None, "g": 3, 0: len})
        for functions in anything():
            if isinstance(functions, dict):
                BookRun(Book(((),)), functions)
            else:
                with self.assertRaises(NoFunctions):
                    BookRun(Book(((),)), functions)

    def test_the_dict_may_change_behind_the_making(self):
        functions = {"f": lambda row: "old"}
        run = run_of((note("x"), call(1)), (("print", "x"),), functions=functions)
        functions["f"] = lambda row: "new"
        run.step(0)
        functions.clear()
        twin = run.copy()
        self.assertEqual((stepped(run, 0, 0).said(), stepped(twin, 0, 0).said()), (("old",), ("old",)))

    def test_errors_of_functions_go_on(self):
        for error in (Broken(), ValueError(), KeyError("f"), NothingDone(), BadStep(), StopIteration(), IsOver()):
            calls = Calls("f")
            run = run_of((note("x"), note("y", "x"), call(1)), (("print", "y"),), functions=calls.functions)
            stepped(run, 0, 0, 0)
            before = seen(run)
            calls.error = error
            for _ in range(2):
                with self.assertRaises(type(error)) as caught:
                    run.step(0)
                self.assertIs(caught.exception, error)
                self.assertEqual(seen(run), before)
            run.back()
            run.step(0)
            calls.error = None
            run.step(0)
            self.assertEqual((run.said(), run.pile()), (("f4",), ()))


class BackAndCopy(unittest.TestCase):
    def test_nothing_done(self):
        run = run_of((call(1),), (ASK,))
        for _ in range(2):
            with self.assertRaises(NothingDone):
                run.back()
        stepped(run, 0, 0).back()
        run.back()
        with self.assertRaises(NothingDone):
            run.back()
        with self.assertRaises(NothingDone):
            run_of(()).back()

    def test_back_from_anywhere(self):
        chance = random.Random(301)
        for blocks in some_books(80, 302):
            run = BookRun(Book(blocks), TERMS)
            kept = []
            for _ in range(40):
                after = choices(run, blocks)
                if not after or (kept and chance.random() < 0.25):
                    if not kept:
                        break
                    run.back()
                    self.assertEqual(seen(run), kept.pop())
                else:
                    kept.append(seen(run))
                    run.step(chance.randrange(after))
            while kept:
                run.back()
                self.assertEqual(seen(run), kept.pop())

    def test_copies_are_apart(self):
        chance = random.Random(303)
        for blocks in some_books(80, 304):
            run = BookRun(Book(blocks), TERMS)
            for _ in range(12):
                if not choices(run, blocks):
                    break
                run.step(chance.randrange(choices(run, blocks)))
            before = seen(run)
            twin = run.copy()
            self.assertIsNot(twin, run)
            self.assertEqual(seen(twin), before)
            for _ in range(5):
                if twin.steps() and (chance.random() < 0.5 or not choices(twin, blocks)):
                    twin.back()
                elif choices(twin, blocks):
                    twin.step(chance.randrange(choices(twin, blocks)))
            other = seen(twin)
            self.assertEqual(seen(run), before)
            while run.steps():
                run.back()
            self.assertEqual(seen(twin), other)
            while twin.steps():
                twin.back()
            self.assertEqual(seen(twin), seen(run))

    def test_functions_are_not_called_by_back(self):
        calls = Calls("f")
        run = stepped(run_of((note("x"), call(1)), (ASK,), functions=calls.functions), 0, 0, 0)
        run.back()
        self.assertEqual((len(calls.log), run.waiting()), (1, (0,)))
        run.step(0)
        self.assertEqual((len(calls.log), run.held("x")), (2, ("worth", "f2")))


def choices(run, blocks):
    """How many next places there are, told from the row itself."""
    if not run.pile():
        return 0
    n, place = run.pile()[-1]
    return len(reference_nexts(blocks[n])[place])


class BookTold(unittest.TestCase):
    BOOK = Book(((("give", "t", 0), call(1), ("print", "t")), (either((call(1), note("t", "t"))),)))

    def test_it_did_these_steps(self):
        for steps in ((), (0,), (0, 0), (0, 0, 0, 0), (0, 0, 1, 0), (0, 0, 0, 0, 0, 0, 1, 0, 0)):
            run = book_told(self.BOOK, steps, TERMS)
            self.assertEqual(run.steps(), steps)
            self.assertEqual(seen(run), seen(stepped(BookRun(self.BOOK, TERMS), *steps)))
        self.assertEqual(book_told(Book(((),)), (), {}).pile(), ())

    def test_no_steps(self):
        for steps in [(0, 1), (1,), (0, 0, 2), (0, 0, 1, 0, 0), (0, True), (False,), (0, "0"), [0], [], 0, "0", None, (-1,),
                      (0, 0, 0, 1), (0, (0,)), (0, None), {0: 0}, (0, 0, 1, 0, 1)] + anything():
            if steps == ():
                continue
            for functions in (TERMS, {}, None):
                with self.subTest(steps=type(steps)), self.assertRaises(NoSteps):
                    book_told(self.BOOK, steps, functions)
        for steps in [(0,), (1,), (None,)] + anything():
            if steps != ():
                with self.assertRaises(NoSteps):
                    book_told(Book(((),)), steps, {})

    def test_no_functions(self):
        for functions in [{}, {"t": len}, ["f"], "f"] + anything():
            for steps in ((), (0, 0, 1)):
                with self.assertRaises(NoFunctions):
                    book_told(self.BOOK, steps, functions)

    def test_no_function_is_called_for_steps_that_are_none(self):
        calls = Calls("f")
        book = Book(((note("x"), call(1)), (ASK, ASK)))
        with self.assertRaises(NoSteps):
            book_told(book, (0, 0, 0, 1), calls.functions)
        self.assertEqual(calls.log, [])
        calls.error = Broken()
        with self.assertRaises(Broken):
            book_told(book, (0, 0, 0, 0), calls.functions)
        self.assertEqual(len(calls.log), 1)


class Deep(unittest.TestCase):
    DOWN = ((("give", "x", 0), call(1), ("print", "x")), (either((note("x", "x"), call(1), note("x", "x"))),))

    def test_thousands_of_calls_within_one_another(self):
        deep = 4000
        plus = {"f": lambda row: row[0] + 1}
        run = BookRun(Book(self.DOWN), plus)
        plain = PlainBookRun(self.DOWN, plus)
        for which in (0, 0) + (0, 0, 0) * deep:
            run.step(which)
        self.assertEqual(run.pile(), ((0, 1),) + ((1, 2),) * deep + ((1, 0),))
        self.assertEqual(len(run.waiting()), deep)
        twin = run.copy()
        stepped(run, 1, *(0,) * deep)
        self.assertEqual((run.pile(), len(run.waiting())), (((0, 2),), 2 * deep))
        run.step(0)
        self.assertEqual((run.pile(), run.said(), run.worked()), ((), (2 * deep,), tuple(range(2 * deep))))
        steps = run.steps()
        for _ in range(deep + 2):
            run.back()
        self.assertEqual(seen(run), seen(twin))
        self.assertEqual(book_told(Book(self.DOWN), steps, plus).said(), (2 * deep,))
        for which in (0, 0) + (0, 0, 0) * 1200 + (1,) + (0,) * 300:
            plain.step(which)
        other = book_told(Book(self.DOWN), tuple(plain.whiches), plus)
        for _ in range(2):
            self.assertEqual((other.pile(), other.rows()), (plain.pile(), tuple(plain.done)))
            self.assertEqual((book_shape(other), other.waiting()), (plain.shape(), plain.account.waiting()))
            for _ in range(400):
                other.back()
                plain.back()

    def test_calls_that_end_all_at_once(self):
        deep = 5000
        run = stepped(run_of((either((call(0),)),)), *(0, 0) * deep)
        self.assertEqual(run.pile(), ((0, 1),) * deep + ((0, 0),))
        run.step(1)
        self.assertEqual((run.pile(), len(run.rows())), ((), 2 * deep + 1))
        run.back()
        self.assertEqual(run.pile(), ((0, 1),) * deep + ((0, 0),))
        twin = run.copy()
        for _ in range(2 * deep):
            run.back()
        self.assertEqual((run.pile(), run.rows()), (((0, 0),), ()))
        self.assertEqual(len(twin.pile()), deep + 1)


class AgainstAPlainAccount(unittest.TestCase):
    def assert_alike(self, run, plain, names_of_book):
        self.assertEqual(run.pile(), plain.pile())
        self.assertEqual((run.rows(), run.steps()), (tuple(plain.done), tuple(plain.whiches)))
        self.assertEqual([run.held(name) for name in names_of_book], [plain.account.held(name) for name in names_of_book])
        self.assertEqual((run.waiting(), run.worked(), run.said()),
                         (plain.account.waiting(), plain.account.now["order"], plain.account.now["said"]))
        self.assertEqual(book_shape(run), plain.shape())
        for number in range(len(plain.account.now["made"]) + 1):
            expected = plain.account.note(number) if number < len(plain.account.now["made"]) else None
            if expected is None:
                with self.assertRaises(NoNote):
                    run.note(number)
            else:
                self.assertEqual(run.note(number), expected)

    def test_drawn_books_and_choices(self):
        chance = random.Random(305)
        for blocks in some_books(150, 306) + some_books(100, 307, True, most_blocks=6):
            calls, others = Calls("f", "g"), Calls("f", "g")
            run, plain = BookRun(Book(blocks), calls.functions), PlainBookRun(blocks, others.functions)
            for _ in range(50):
                if plain.choices() and chance.random() < 0.85:
                    which = chance.randrange(plain.choices())
                    run.step(which)
                    plain.step(which)
                elif plain.whiches:
                    run.back()
                    plain.back()
                self.assert_alike(run, plain, plain_book_names(blocks))
                self.assertEqual(calls.log, others.log)

    def test_deep_runs(self):
        chance = random.Random(308)
        deepest = 0
        for blocks in some_books(60, 309, True, most_blocks=3):
            run, plain = BookRun(Book(blocks), TERMS_OF_LENGTH), PlainBookRun(blocks, TERMS_OF_LENGTH)
            for _ in range(600):
                if not plain.choices():
                    break
                # Deeper is where more places lie on the pile; the first side mostly calls.
                which = min(int(chance.random() * 1.4), 1) if plain.choices() == 2 else 0
                run.step(which)
                plain.step(which)
            deepest = max(deepest, len(plain.pile()))
            self.assert_alike(run, plain, plain_book_names(blocks))
            while chance.random() < 0.99 and run.steps():
                run.back()
                plain.back()
            self.assert_alike(run, plain, plain_book_names(blocks))
        self.assertGreater(deepest, 50)


TERMS_OF_LENGTH = {op: lambda row: 1 + sum(row) % 1000 for op in "fgh"}


class FifthFact(unittest.TestCase):
    def assert_goes_alike(self, blocks, chance):
        book = Book(blocks)
        wide = put_in(book)
        run, other = BookRun(book, TERMS), Run(wide, TERMS)
        for _ in range(60):
            while run.pile() and row_of(blocks, run.pile()[-1])[0] == "call":
                run.step(0)
            if not run.pile():
                break
            self.assertEqual(row_of(blocks, run.pile()[-1])[0], row_at(wide, other.place())[0])
            which = chance.randrange(len(nexts(wide, other.place())))
            run.step(which)
            other.step(which)
            self.assertEqual((run.said(), run.worked(), run.waiting()), (other.said(), other.worked(), other.waiting()))
            if names(wide) == plain_book_names(blocks):
                self.assertEqual(book_shape(run), shape(other)[1:])
        self.assertEqual(run.pile() == (), nexts(wide, other.place()) == ())

    def test_books_without_knots_say_what_their_programs_say(self):
        chance = random.Random(310)
        for blocks in some_books(200, 311, False):
            for _ in range(3):
                self.assert_goes_alike(blocks, chance)

    def test_a_book_of_one_program_goes_as_the_program(self):
        chance = random.Random(312)
        for blocks in some_books(100, 313, False, most_blocks=1):
            run, other = BookRun(as_book(Program(blocks[0])), TERMS), ReferenceRun(blocks[0], TERMS, plain_book_names(blocks))
            for _ in range(30):
                self.assertEqual(run.pile(), ((0, other.path[-1]),) if other.leads[other.path[-1]] else ())
                if not run.pile():
                    break
                which = chance.randrange(len(other.leads[other.path[-1]]))
                run.step(which)
                other.step(which)
                self.assertEqual((run.waiting(), run.said()), (other.waiting(), tuple(other.printed)))
                self.assertEqual(book_shape(run), other.shape()[1:])

    def test_calls_put_in_by_hand(self):
        blocks = ((call(1), ("again", (call(1), call(2))), ("print", "x")), (note("x", "x"), call(2)), ())
        self.assertEqual(put_in(Book(blocks)).block, plain_put_in(blocks[0], blocks))
        self.assert_goes_alike(blocks, random.Random(314))


def row_of(blocks, place):
    return rows_in(blocks[place[0]])[place[1]]


class Shapes(unittest.TestCase):
    def test_shapes(self):
        run = stepped(run_of((note("b"), call(1)), (note("a", "c", "b"), ("copy", "c", "a"))), 0, 0, 0, 0)
        self.assertEqual(book_shape(run), ((0, 1, 0), (("f", (-1, 1)), ("f", ()))))
        self.assertIs(type(book_shape(run)), tuple)


if __name__ == "__main__":
    unittest.main()
