"""Promises 0.2 to 0.5 and 7.2: sessions that are recovered from what is left of their journals."""

import random
import unittest

from odd import anything
from reference_piles import TERMS
from reference_sessions import Account
from reference_texts import plain_journal_rows
from rows import note
from strangers import Broken
from putoffpiles.errors import BadRow, NoFunctions, NoNote, NoText, NothingDone, Unknown
from putoffpiles.journals import recovered
from putoffpiles.sessions import Session


def act(session, row):
    if row[0] == "drop":
        session.drop(row[1])
    else:
        session.do(row)


def done(*rows, functions=TERMS):
    session = Session(functions)
    for row in rows:
        act(session, row)
    return session


def seen(session):
    notes = []
    for number in range(30):
        try:
            notes.append(session.note(number))
        except NoNote:
            notes.append(None)
    return ([session.held(name) for name in "abcdxyz"], notes, session.waiting(), session.worked(), session.said(),
            session.names(), session.journal())


def line_of(text):
    """A journal's line with the right check, whatever the text."""
    return f"{text} #{sum(ord(sign) * at for at, sign in enumerate(text, 1)) % 9973}\n"


ROWS = (("give", "a", 2), note("b", "a", "a"), ("copy", "c", "b"), note("a", "b", "c"), ("print", "c"), ("drop", "c"),
        ("ask", "a"), note("c"), ("give", "c", -10 ** 29), ("drop", "a"))


def some_rows(chance, many):
    """Rows and drops that can be done one behind the other."""
    rows, written = [], set()
    while len(rows) < many:
        word = chance.choice(("note", "note", "note", "copy", "give", "ask", "print", "drop"))
        name = chance.choice("abcdxyz")
        if word == "drop" and name not in written:
            continue
        if word == "note":
            rows.append(("note", name, chance.choice("fgh"), tuple(chance.choices("abcdxyz", k=chance.randint(0, 3)))))
        else:
            rows.append({"copy": ("copy", name, chance.choice("abcdxyz")), "give": ("give", name, chance.randint(-99, 99))}
                        .get(word, (word, name)))
        if word in ("note", "copy", "give"):
            written.add(name)
        written -= {name} if word == "drop" else set()
    return rows


class Recovered(unittest.TestCase):
    def assert_recovered(self, text, rows, many, functions=TERMS):
        pair = recovered(functions, text)
        self.assertIs(type(pair), tuple)
        session, signs = pair
        self.assertEqual((type(session), signs), (Session, many))
        self.assertEqual(seen(session), seen(done(*rows, functions=functions)), text)
        return session

    def test_a_whole_journal(self):
        session = done(*ROWS)
        text = session.journal()
        again = self.assert_recovered(text, ROWS, len(text))
        self.assertEqual(again.journal(), text)
        self.assertEqual(seen(again), seen(session))

    def test_an_empty_one(self):
        self.assert_recovered("", (), 0)
        self.assertEqual(recovered({}, "")[0].names(), ())

    def test_the_example(self):
        self.assert_recovered("a = 2 #722\n", (("give", "a", 2),), 11)

    def test_it_goes_on_back_and_again(self):
        session = recovered(TERMS, done(*ROWS).journal())[0]
        for _ in ROWS:
            session.undo()
        self.assertEqual(seen(session), seen(done()))
        with self.assertRaises(NothingDone):
            session.undo()
        for _ in ROWS:
            session.redo()
        with self.assertRaises(NothingDone):
            session.redo()
        session.do(("print", "c"))
        self.assertEqual(session.said()[-1], -10 ** 29)

    def test_what_was_taken_back_does_not_come_back(self):
        session = done(*ROWS)
        for _ in range(4):
            session.undo()
        again = self.assert_recovered(session.journal(), ROWS[:-4], len(session.journal()))
        with self.assertRaises(NothingDone):
            again.redo()

    def test_cut_at_every_sign(self):
        text = done(*ROWS).journal()
        ends = [at + 1 for at, sign in enumerate(text) if sign == "\n"]
        for cut in range(len(text) + 1):
            whole = sum(end <= cut for end in ends)
            self.assert_recovered(text[:cut], ROWS[:whole], ([0] + ends)[whole])

    def test_cut_drawn_journals(self):
        chance = random.Random(501)
        for _ in range(30):
            rows = some_rows(chance, chance.randint(1, 12))
            text = done(*rows).journal()
            for cut in chance.sample(range(len(text) + 1), 12):
                whole = text[:cut].count("\n")
                self.assert_recovered(text[:cut], rows[:whole], text[:cut].rfind("\n") + 1)

    def test_wrong_checks(self):
        text = done(*ROWS).journal()
        lines = text.split("\n")[:-1]
        for at, line in enumerate(lines):
            body, _, check = line.partition(" #")
            for wrong in (str(int(check) + 1), str(int(check) - 1), str(int(check) + 9973), "0" + check, check + " ", "+" + check,
                          " " + check, check + "0", "", "-1", "x", check + "#", check + " #" + check, "#" + check):
                changed = lines[:at] + [f"{body} #{wrong}"] + lines[at + 1 :]
                before = sum(len(each) + 1 for each in lines[:at])
                self.assert_recovered("\n".join(changed) + "\n", ROWS[:at], before)
            for other in (f"{body}#{check}", f"{body}  #{check}", f"{body} # {check}", f"{body} {check}", f" {line}",
                          f"{line} ", body, "", f"{body} #{check} #{check}", f"{body.upper()} #{check}"):
                changed = lines[:at] + [other] + lines[at + 1 :]
                before = sum(len(each) + 1 for each in lines[:at])
                self.assert_recovered("\n".join(changed) + "\n", ROWS[:at], before)

    def test_right_checks_of_what_is_no_row(self):
        first = line_of("a = 2")
        for body in ("a = f(a", "a = 02", "a = -0", "a  = 2", "a = 2 ", " a = 2", "drop", "drop ", "drop  a", "drop A", "drop a b",
                     "either", "or", "again", "call 0", "block", "", " ", "#", "a = 2 #722", "ask", "ask  a", "a = f(a,b)",
                     "a = f(a, b, c, d)", "a = " + "1" * 31, "undo", "a = f(a) ", "dropa", "print A", "abcdefghi = 1",
                     "  ask a", "copy a b", "drop abcdefghi"):
            self.assert_recovered(first + line_of(body) + line_of("a = 3"), (("give", "a", 2),), len(first))

    def test_right_checks_of_rows_that_cannot_be_done(self):
        first = line_of("a = 2")
        for body in ("b = nope(a)", "a = a()", "drop b", "drop f", "b = ask()"):
            self.assert_recovered(first + line_of(body) + line_of("a = 3"), (("give", "a", 2),), len(first))
        gone = first + line_of("drop a")
        self.assert_recovered(gone + line_of("drop a") + first, (("give", "a", 2), ("drop", "a")), len(gone))
        read = line_of("b = f(c)")
        self.assert_recovered(read + line_of("drop c"), (note("b", "c"),), len(read))
        self.assert_recovered(line_of("ask c") + line_of("drop c"), (("ask", "c"),), len(line_of("ask c")))

    def test_ops_that_these_functions_lack(self):
        rows = (note("a"), ("note", "b", "g", ("a",)), note("c"))
        text = done(*rows).journal()
        functions = {"f": TERMS["f"]}
        self.assert_recovered(text, rows[:1], len(line_of("a = f()")), functions)
        self.assert_recovered(text, (), 0, {})
        self.assert_recovered(text, (), 0, {"g": TERMS["g"]})

    def test_rows_of_names_that_are_words(self):
        rows = (("copy", "drop", "ask"), ("give", "ask", 1), ("note", "print", "f", ("drop",)), ("drop", "drop"),
                ("ask", "print"))
        text = done(*rows).journal()
        self.assertTrue(text.startswith("drop = ask #"))
        self.assert_recovered(text, rows, len(text))

    def test_functions_that_tell_otherwise(self):
        text = done(*ROWS).journal()
        other = {"f": lambda row: "other"}
        session = self.assert_recovered(text, ROWS, len(text), other)
        self.assertEqual(session.said(), ("other",))
        self.assertEqual(session.waiting(), done(*ROWS).waiting())

    def test_the_last_line_must_be_whole(self):
        text = line_of("a = 2") + line_of("b = 3")
        self.assert_recovered(text[:-1], (("give", "a", 2),), len(line_of("a = 2")))
        self.assert_recovered(text + "c = 4", (("give", "a", 2), ("give", "b", 3)), len(text))
        self.assert_recovered("\n" + text, (), 0)
        self.assert_recovered(line_of("a = 2") + "\n" + line_of("b = 3"), (("give", "a", 2),), len(line_of("a = 2")))


class Errors(unittest.TestCase):
    def test_no_functions(self):
        for functions in [{"F": len}, {1: len}, {"": len}, ["f"], "f", ("f",), None] + anything():
            if isinstance(functions, dict) and list(functions) in ([], ["t"]):
                continue
            for text in ("", None, "a = 2 #722\n"):
                with self.subTest(functions=type(functions)), self.assertRaises(NoFunctions):
                    recovered(functions, text)

    def test_no_text(self):
        for text in [b"", b"a = 2 #722\n", ["a = 2 #722\n"], None, 0, True, ()] + anything():
            if not isinstance(text, str):
                with self.subTest(text=type(text)), self.assertRaises(NoText):
                    recovered(TERMS, text)

    def test_strings_of_all_kinds(self):
        for text in anything():
            if isinstance(text, str):
                for more in ("", "\n", " #0\n"):
                    self.assertEqual(recovered(TERMS, text + more)[1], 0)

    def test_errors_of_functions_go_on(self):
        text = done(note("a"), ("print", "a"), ("give", "b", 1)).journal()
        for error in (Broken(), ValueError(), BadRow(), Unknown("a"), NoText(), NothingDone(), KeyError("f"), StopIteration()):
            def raises(row, error=error):
                raise error
            with self.assertRaises(type(error)) as caught:
                recovered({"f": raises}, text)
            self.assertIs(caught.exception, error)
            # No function is called for lines behind the last whole one.
            self.assertEqual(recovered({"f": raises}, text.replace("print a #", "print a #1"))[1], len(line_of("a = f()")))

    def test_arguments_are_not_changed(self):
        functions = {"f": TERMS["f"]}
        recovered(functions, done(note("a")).journal())
        self.assertEqual(functions, {"f": TERMS["f"]})

    def test_long_journals(self):
        plus = {"f": lambda row: row[0] + 1}
        session = Session(plus)
        for _ in range(3000):
            session.do(note("a", "a"))
        session.do(("print", "a"))
        again, many = recovered(plus, session.journal())
        self.assertEqual((again.said(), many), ((3000,), len(session.journal())))


class AgainstAPlainReader(unittest.TestCase):
    def assert_plainly(self, functions, text):
        rows, many = plain_journal_rows(functions, text)
        session, signs = recovered(functions, text)
        account = Account(functions)
        for row in rows:
            account.go(row)
        self.assertEqual((signs, session.journal()), (many, account.journal()), text)
        self.assertEqual((session.said(), session.worked(), session.waiting()),
                         (account.now["said"], account.now["order"], account.waiting()))
        self.assertEqual([session.held(name) for name in "abcdxyz"], [account.held(name) for name in "abcdxyz"])
        return len(rows)

    def test_one_sign_changed(self):
        chance = random.Random(502)
        kept = set()
        for _ in range(60):
            text = done(*some_rows(chance, chance.randint(1, 10))).journal()
            for _ in range(15):
                at = chance.randrange(len(text) + 1)
                sign = chance.choice(["", " ", "\n", "x", "0", "#", ", ", "a"])
                kept.add(self.assert_plainly(TERMS, text[:at] + sign + text[at + chance.randint(0, 2) :]))
        self.assertLessEqual(set(range(8)), kept)

    def test_lines_left_out_put_in_exchanged(self):
        chance = random.Random(503)
        shorter = 0
        for _ in range(200):
            rows = some_rows(chance, chance.randint(2, 12))
            lines = [line + "\n" for line in done(*rows).journal().split("\n")[:-1]]
            for _ in range(5):
                changed = list(lines)
                at, other = chance.randrange(len(lines)), chance.randrange(len(lines))
                kind = chance.randrange(4)
                if kind == 0:
                    del changed[at]
                elif kind == 1:
                    changed.insert(at, chance.choice(lines + [line_of("drop x"), line_of("x = nope()"), line_of("a = 01")]))
                elif kind == 2:
                    changed[at], changed[other] = changed[other], changed[at]
                else:
                    changed[at] = line_of(changed[at].partition(" #")[0] + chance.choice(["", " ", "z", ")"]))
                functions = {op: TERMS[op] for op in chance.choice(("fgh", "fgh", "fg", "f"))}
                shorter += self.assert_plainly(functions, "".join(changed)) < len(changed)
        self.assertGreater(shorter, 100)


if __name__ == "__main__":
    unittest.main()
