"""Promises 0.2 to 0.5, 7.1 and, as far as it speaks of journals, 7.2: sessions, typed row by row."""

import random
import re
import unittest

from odd import anything
from reference import loopy_blocks, some_blocks
from reference_piles import TERMS
from reference_sessions import Account
from strangers import Broken, Calls
from putoffpiles.errors import BadRow, NoFunctions, NoName, NoNote, NothingDone, Unknown
from putoffpiles.machine import Machine
from putoffpiles.programs import Program, names, nexts, row_at
from putoffpiles.runs import Run
from putoffpiles.sessions import Session

PLAIN = ("note", "copy", "give", "ask", "print")


def note(name, *ys):
    return ("note", name, "f", ys)


def done(*rows, functions=TERMS):
    session = Session(functions)
    for row in rows:
        session.do(row)
    return session


def seen(session):
    """All that a session tells."""
    notes = []
    for number in range(12):
        try:
            notes.append(session.note(number))
        except NoNote:
            notes.append(None)
    return ([session.held(name) for name in "abcxyz"], notes, session.waiting(), session.worked(), session.said(),
            session.names(), session.journal())


class Making(unittest.TestCase):
    def test_it_begins_with_nothing(self):
        session = Session({})
        self.assertEqual(seen(session), ([("worth", 0)] * 6, [None] * 12, (), (), (), (), ""))

    def test_no_functions(self):
        for functions in [{"f": len, "F": len}, {1: len}, {"": len}, {"abcdefghi": len}, {"f": len, None: len}, ["f"],
                          {b"f": len}, {("f",): len}, "f", ("f",), {"f ": len}] + anything():
            if functions == {"t": 0} or functions == {}:
                Session(functions)
            elif isinstance(functions, dict) and list(functions) == ["t"]:
                self.assertEqual(Session(functions).names(), ())
            else:
                with self.subTest(functions=type(functions)), self.assertRaises(NoFunctions):
                    Session(functions)

    def test_the_dict_may_change_behind_the_making(self):
        functions = {"f": lambda row: "old"}
        session = Session(functions)
        functions["f"] = lambda row: "new"
        functions["g"] = len
        session.do(note("x"))
        functions.clear()
        session.do(("print", "x"))
        with self.assertRaises(BadRow):
            session.do(("note", "x", "g", ()))
        session.undo()
        session.redo()
        twin = session.copy()
        twin.do(note("x"))
        twin.do(("print", "x"))
        self.assertEqual(twin.said(), ("old", "old"))
        self.assertEqual(functions, {})


class Do(unittest.TestCase):
    def test_rows(self):
        session = done(("give", "x", 3), note("y", "x", "u"), ("copy", "z", "y"), ("ask", "u"))
        self.assertEqual([session.held(name) for name in "uxyz"],
                         [("worth", 0), ("worth", 3), ("note", 0), ("note", 0)])
        self.assertEqual((session.note(0), session.waiting()), (("f", (("worth", 3), ("worth", 0))), (0,)))
        session.do(("print", "z"))
        self.assertEqual((session.said(), session.worked(), session.waiting()), ((("f", 3, 0),), (0,), ()))
        self.assertEqual(session.note(0), ("worth", ("f", 3, 0)))

    def test_names_that_are_words(self):
        session = done(("copy", "ask", "print"), ("give", "or", 1), ("note", "either", "f", ("or",)), ("print", "either"))
        self.assertEqual((session.said(), session.names()), ((("f", 1),), ("ask", "either", "or")))

    def test_it_returns_none(self):
        session = Session(TERMS)
        for row in (("give", "x", 1), note("x"), ("copy", "y", "x"), ("ask", "x"), ("print", "x")):
            self.assertIsNone(session.do(row))
        self.assertIsNone(session.drop("x"))
        self.assertIsNone(session.undo())
        self.assertIsNone(session.redo())

    def test_bad_rows(self):
        for row in [("either", (), ()), ("again", ()), ("call", 0), ("drop", "x"), ("note", "x", "u", ()), ["ask", "x"],
                    ("note", "x", "f", ["y"]), ("note", "x", "f", ("a", "b", "c", "d")), ("give", "x", True),
                    ("give", "x", "1"), ("ask", "X"), ("ask",), ("copy", "x"), ("again", (("ask", "x"),)), ("x", "ask"),
                    ("note", "x", "f", (True,)), ("give", 1, 1)] + anything():
            session = done(note("x"))
            before = seen(session)
            with self.subTest(row=type(row)), self.assertRaises(BadRow):
                session.do(row)
            self.assertEqual(seen(session), before)
        for thing in anything():
            for row in (("ask", thing), ("note", "x", thing, ()), ("note", "x", "f", (thing,)), ("give", thing, 1),
                        (thing, "x"), ("copy", thing, "x"), ("print", thing)):
                with self.assertRaises(BadRow):
                    Session(TERMS).do(row)

    def test_a_bad_row_leaves_what_can_be_done_again(self):
        session = done(note("x"))
        session.undo()
        with self.assertRaises(BadRow):
            session.do(("note", "x", "u", ()))
        session.redo()
        self.assertEqual(session.waiting(), (0,))

    def test_held_and_note_of_what_is_none(self):
        session = done(note("x"), note("x"))
        self.assertEqual(session.held("nobody"), ("worth", 0))
        for name in ["X", "", "x1", "abcdefghi", ("x",), b"x"] + anything():
            with self.assertRaises(NoName):
                session.held(name)
        for number in [0, 2, True, False, -1, "1"] + anything():
            with self.assertRaises(NoNote):
                session.note(number)
        self.assertEqual(session.note(1), ("f", ()))

    def test_more_than_eight_names(self):
        session = done(*(note(first + second) for first in "abcdefgh" for second in "abcdefgh"))
        self.assertEqual((len(session.names()), session.waiting()), (64, tuple(range(64))))


class Names(unittest.TestCase):
    def test_those_that_were_written(self):
        session = done(("give", "z", 1), note("c", "p"), ("copy", "b", "q"), ("ask", "r"), ("print", "s"))
        self.assertEqual(session.names(), ("b", "c", "z"))

    def test_drop(self):
        session = done(("give", "z", 1), note("c"), ("copy", "b", "c"))
        session.drop("c")
        self.assertEqual((session.names(), session.held("c"), session.waiting()), (("b", "z"), ("worth", 0), (0,)))
        session.drop("b")
        self.assertEqual((session.names(), session.waiting()), (("z",), ()))
        with self.assertRaises(NoNote):
            session.note(0)
        session.do(("give", "c", 5))
        self.assertEqual((session.names(), session.held("c")), (("c", "z"), ("worth", 5)))

    def test_a_name_that_is_dropped_is_a_part_that_holds_zero(self):
        session = done(("give", "x", 4))
        session.drop("x")
        session.do(note("y", "x"))
        self.assertEqual(session.note(0), ("f", (("worth", 0),)))

    def test_unknown(self):
        session = done(("ask", "r"), note("x", "p"), ("copy", "b", "x"))
        session.drop("b")
        before = seen(session)
        for name in ["r", "p", "b", "f", "", "X", ("x",), True, 0] + anything():
            with self.assertRaises(Unknown) as caught:
                session.drop(name)
            self.assertIs(caught.exception.name, name)
            self.assertEqual(seen(session), before)


class UndoRedo(unittest.TestCase):
    ROWS = (("give", "a", 2), note("b", "a"), note("a", "b"), ("copy", "c", "a"), ("print", "b"), note("b", "c"),
            ("ask", "c"), ("give", "c", 1), ("print", "b"))

    def test_what_stood_ahead_comes_back(self):
        session = Session(TERMS)
        before = []
        for row in self.ROWS:
            before.append(seen(session))
            session.do(row)
        session.drop("b")
        session.drop("c")
        session.undo()
        after = []
        for expected in [None] + before[::-1]:
            after.append(seen(session))
            session.undo()
            if expected is not None:
                self.assertEqual(seen(session), expected)
        with self.assertRaises(NothingDone):
            session.undo()
        for expected in after[::-1]:
            session.redo()
            self.assertEqual(seen(session), expected)
        session.redo()
        with self.assertRaises(NothingDone):
            session.redo()

    def test_numbers_of_notes_come_back_too(self):
        session = done(note("x"), note("y"))
        session.undo()
        session.do(note("z"))
        self.assertEqual((session.held("z"), session.waiting(), session.names()), (("note", 1), (0, 1), ("x", "z")))

    def test_nothing_done(self):
        session = Session(TERMS)
        for method in (session.undo, session.redo):
            with self.assertRaises(NothingDone):
                method()
        session.do(("give", "x", 1))
        with self.assertRaises(NothingDone):
            session.redo()
        session.undo()
        with self.assertRaises(NothingDone):
            session.undo()
        session.redo()
        self.assertEqual(session.held("x"), ("worth", 1))

    def test_what_is_done_since_ends_it(self):
        for act in (lambda session: session.do(("ask", "u")), lambda session: session.drop("x")):
            session = done(("give", "x", 1), ("give", "x", 2))
            session.undo()
            act(session)
            with self.assertRaises(NothingDone):
                session.redo()
            session.undo()
            session.redo()
            with self.assertRaises(NothingDone):
                session.redo()

    def test_functions_are_called_again_by_a_redo_not_by_an_undo(self):
        calls = Calls("f")
        session = done(note("x"), note("y", "x"), ("print", "y"), functions=calls.functions)
        self.assertEqual(calls.log, [("f", ()), ("f", ("f1",))])
        session.undo()
        self.assertEqual((len(calls.log), session.waiting(), session.said()), (2, (0, 1), ()))
        session.redo()
        self.assertEqual(calls.log[2:], [("f", ()), ("f", ("f3",))])
        self.assertEqual((session.said(), session.note(0), session.worked()), (("f4",), ("worth", "f3"), (0, 1)))
        session.do(("give", "x", 1))
        session.drop("y")
        for method in (session.undo, session.undo, session.redo, session.redo):
            method()
        self.assertEqual(len(calls.log), 4)

    def test_an_error_of_a_function_in_do(self):
        for error in (Broken(), ValueError(), KeyError("f"), NothingDone(), BadRow(), StopIteration()):
            calls = Calls("f")
            session = done(note("x"), note("y", "x"), ("give", "z", 1), functions=calls.functions)
            session.undo()
            before = seen(session)
            calls.error = error
            for row in (("ask", "y"), ("print", "y")):
                with self.assertRaises(type(error)) as caught:
                    session.do(row)
                self.assertIs(caught.exception, error)
                self.assertEqual(seen(session), before)
            session.redo()
            self.assertEqual(session.held("z"), ("worth", 1))
            calls.error = None
            session.do(("print", "y"))
            self.assertEqual(session.said(), ("f4",))

    def test_an_error_of_a_function_in_redo(self):
        calls = Calls("f")
        session = done(note("x"), note("y", "x"), ("print", "y"), ("give", "z", 1), functions=calls.functions)
        session.undo()
        session.undo()
        before = seen(session)
        calls.error = Broken()
        for _ in range(2):
            with self.assertRaises(Broken):
                session.redo()
            self.assertEqual(seen(session), before)
        calls.error = None
        session.redo()
        session.redo()
        self.assertEqual((session.said(), session.held("z")), (("f6",), ("worth", 1)))

    def test_a_drop_done_again(self):
        session = done(note("x"))
        session.drop("x")
        session.undo()
        self.assertEqual((session.names(), session.waiting()), (("x",), (0,)))
        session.redo()
        self.assertEqual((session.names(), session.waiting()), ((), ()))

    def test_copies_go_on_apart(self):
        session = done(note("x"), ("give", "y", 1), ("print", "x"))
        session.undo()
        twin = session.copy()
        before = seen(session)
        twin.redo()
        twin.do(note("z", "x"))
        twin.drop("y")
        self.assertEqual(seen(session), before)
        other = seen(twin)
        session.undo()
        session.undo()
        session.do(("give", "x", 9))
        self.assertEqual(seen(twin), other)
        for _ in range(5):
            twin.undo()
        self.assertEqual((twin.journal(), session.held("x")), ("", ("worth", 9)))
        with self.assertRaises(NothingDone):
            twin.undo()
        for _ in range(5):
            twin.redo()
        self.assertEqual(seen(twin), other)

    def test_more_than_a_thousand_notes_one_beneath_the_other(self):
        session = Session({"f": lambda row: row[0] + 1})
        for _ in range(3000):
            session.do(note("x", "x"))
        self.assertEqual(session.waiting(), tuple(range(3000)))
        session.do(("print", "x"))
        self.assertEqual((session.said(), session.worked(), session.waiting()), ((3000,), tuple(range(3000)), ()))
        session.undo()
        self.assertEqual((session.held("x"), len(session.waiting())), (("note", 2999), 3000))
        session.redo()
        self.assertEqual((session.copy().said(), len(session.journal().split("\n"))), ((3000,), 3002))


class Journal(unittest.TestCase):
    def test_lines(self):
        session = done(("give", "a", -2), note("b", "a", "c"), note("b"), ("copy", "c", "b"), ("ask", "b"), ("print", "c"))
        session.drop("a")
        self.assertEqual([line.partition(" #")[0] for line in session.journal().split("\n")],
                         ["a = -2", "b = f(a, c)", "b = f()", "c = b", "ask b", "print c", "drop a", ""])

    def test_checks(self):
        session = done(("give", "x", 10 ** 30 - 1), ("note", "abcdefgh", "f", ("abcdefgh",) * 3), ("ask", "zzzzzzzz"))
        session.drop("x")
        lines = session.journal().split("\n")[:-1]
        for line in lines:
            text, check = re.fullmatch(r"(.*) #(0|[1-9][0-9]*)", line).groups()
            self.assertEqual(int(check), sum(ord(text[at - 1]) * at for at in range(1, len(text) + 1)) % 9973)
        self.assertEqual(len(lines), 4)
        self.assertEqual(Session(TERMS).journal(), "")

    def test_small_checks_have_no_needless_digits(self):
        found = set()
        for k in range(3000):
            line = done(("give", "x", k)).journal()
            found.add(len(line.rpartition("#")[2]) - 1)
        self.assertLessEqual({3, 4}, found)

    def test_what_was_taken_back_is_not_there(self):
        session = done(("give", "x", 1), ("give", "y", 2))
        session.drop("x")
        whole = session.journal()
        session.undo()
        session.undo()
        self.assertEqual(session.journal().count("\n"), 1)
        self.assertTrue(whole.startswith(session.journal()))
        session.redo()
        session.redo()
        self.assertEqual(session.journal(), whole)
        session.undo()
        session.do(("ask", "x"))
        self.assertEqual([line.partition(" #")[0] for line in session.journal().split("\n")[2:]], ["ask x", ""])

    def test_a_row_that_fell_is_not_there(self):
        calls = Calls("f")
        calls.error = Broken()
        session = done(note("x"), functions=calls.functions)
        before = session.journal()
        with self.assertRaises(Broken):
            session.do(("ask", "x"))
        self.assertEqual(session.journal(), before)


def some_row(chance, letters):
    word, name = chance.choice(PLAIN), chance.choice(letters)
    if word == "note":
        ys = tuple(chance.choice(letters) for _ in range(chance.randint(0, 3)))
        return ("note", name, chance.choice("fg"), ys)
    return {"copy": (word, name, chance.choice(letters)), "give": (word, name, chance.randint(-9, 9))}.get(
        word, (word, name))


class Drawn(unittest.TestCase):
    def assert_alike(self, session, account, letters):
        self.assertEqual([session.held(name) for name in letters], [account.held(name) for name in letters])
        self.assertEqual((session.waiting(), session.worked()), (account.waiting(), account.now["order"]))
        self.assertEqual((session.said(), session.names()), (account.now["said"], tuple(sorted(account.now["heads"]))))
        self.assertEqual(session.journal(), account.journal())
        for number in range(len(account.now["made"]) + 1):
            expected = account.note(number) if number < len(account.now["made"]) else None
            if expected is None:
                with self.assertRaises(NoNote):
                    session.note(number)
            else:
                self.assertEqual(session.note(number), expected)

    def both(self, chance, session, account, act, other_act):
        """Lets both do it, and tells which error each of them raised."""
        errors = []
        for doing in (act, other_act):
            try:
                doing()
                errors.append(None)
            except (Broken, NothingDone, IndexError) as error:
                errors.append("fell" if isinstance(error, Broken) else "nothing")
        self.assertEqual(errors[0], errors[1])
        return errors[0]

    def test_against_a_plain_account(self):
        counted = {}
        for seed in range(100):
            chance = random.Random(seed)
            letters = "abcd"[: chance.randint(2, 4)]
            calls, others = Calls("f", "g"), Calls("f", "g")
            session, account = Session(calls.functions), Account(others.functions)
            for _ in range(60):
                calls.error = others.error = Broken() if chance.random() < 0.25 else None
                kind = chance.choice(["do"] * 6 + ["drop", "undo", "undo", "redo", "redo", "copy"])
                told = self.act(kind, chance, session, account, letters)
                counted[kind, told] = counted.get((kind, told), 0) + 1
                if kind == "copy":
                    session = session.copy()
                    account = account.twin()
                self.assert_alike(session, account, letters)
                self.assertEqual(calls.log, others.log)
        for key in (("do", "fell"), ("undo", "nothing"), ("redo", None), ("redo", "fell"), ("drop", None), ("copy", None)):
            self.assertGreater(counted.get(key, 0), 3, key)

    def act(self, kind, chance, session, account, letters):
        if kind == "do":
            row = some_row(chance, letters)
            return self.both(chance, session, account, lambda: session.do(row), lambda: account.go(row))
        if kind == "drop":
            name = chance.choice(session.names() + ("unknown",))
            if name == "unknown":
                with self.assertRaises(Unknown):
                    session.drop(name)
                return "unknown"
            return self.both(chance, session, account, lambda: session.drop(name), lambda: account.go(("drop", name)))
        if kind == "undo":
            return self.both(chance, session, account, session.undo, account.undo)
        if kind == "redo":
            return self.both(chance, session, account, session.redo, account.redo)
        self.leave(session.copy(), chance, letters)
        return None

    def leave(self, session, chance, letters):
        """A copy goes on and back, which must not be seen by the one that it was copied from."""
        for _ in range(3):
            session.do(("give", chance.choice(letters), 77))
            session.undo()
        for _ in range(chance.randint(0, 4)):
            if session.journal():
                session.undo()
        session.do(("note", "a", "f", ("a",)))


class AllAlike(unittest.TestCase):
    def test_a_run_a_machine_and_a_session_tell_the_same(self):
        chance = random.Random(111)
        for block in some_blocks(120, 112) + loopy_blocks(120, 113):
            program = Program(block)
            run, machine, session = Run(program, TERMS), Machine(program, TERMS, 60), Session(TERMS)
            while nexts(program, run.place()) and len(run.way()) < 50:
                row = row_at(program, run.place())
                which = chance.randrange(len(nexts(program, run.place())))
                run.step(which)
                machine.step(which)
                if row[0] in PLAIN:
                    session.do(row)
                for other in (machine, session):
                    self.assertEqual((other.waiting(), other.worked(), other.said()),
                                     (run.waiting(), run.worked(), run.said()))
                for name in names(program):
                    self.assertEqual(session.held(name), run.held(name))
                    self.assertEqual(machine.held(name)[0], run.held(name)[0])
                    if run.held(name)[0] == "worth":
                        self.assertEqual(machine.held(name), run.held(name))
                for number in run.waiting() + run.worked():
                    self.assertEqual(session.note(number), run.note(number))


if __name__ == "__main__":
    unittest.main()
