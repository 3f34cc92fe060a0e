"""Promises 0.2 to 0.5 and 8.1: the texts of rows and programs, and how they are read."""

import random
import unittest

from odd import anything, odd_strings
from reference import loopy_blocks, some_blocks
from reference_texts import plain_read
from putoffpiles.errors import BadProgram, BadText, NoRow
from putoffpiles.marks import marked, surely
from putoffpiles.programs import Program
from putoffpiles.reading import read_program
from putoffpiles.texts import program_text, row_text

LOOP = Program((("give", "t", 0), ("again", (("note", "t", "add", ("t",)),)), ("print", "t")))
ROWS = {
    ("note", "x", "f", ()): "x = f()",
    ("note", "x", "f", ("y",)): "x = f(y)",
    ("note", "x", "f", ("y", "x")): "x = f(y, x)",
    ("note", "x", "f", ("a", "b", "c")): "x = f(a, b, c)",
    ("note", "ask", "print", ("either", "or", "again")): "ask = print(either, or, again)",
    ("copy", "x", "y"): "x = y",
    ("copy", "ask", "print"): "ask = print",
    ("copy", "either", "or"): "either = or",
    ("give", "x", 0): "x = 0",
    ("give", "x", 7): "x = 7",
    ("give", "x", -7): "x = -7",
    ("give", "x", 10): "x = 10",
    ("give", "again", 10 ** 30 - 1): "again = " + "9" * 30,
    ("give", "or", 1 - 10 ** 30): "or = -" + "9" * 30,
    ("give", "x", 10 ** 29): "x = 1" + "0" * 29,
    ("ask", "x"): "ask x",
    ("ask", "ask"): "ask ask",
    ("print", "x"): "print x",
    ("print", "or"): "print or",
    ("ask", "abcdefgh"): "ask abcdefgh",
}


class TextCase(unittest.TestCase):
    def assert_bad(self, text, line):
        with self.assertRaises(BadText, msg=repr(text)) as caught:
            read_program(text)
        self.assertEqual(caught.exception.line, line, text)

    def assert_bad_line(self, line):
        """The line is wrong wherever it stands."""
        self.assert_bad(line + "\n", 1)
        self.assert_bad("ask x\n" + line + "\nask x\n", 2)
        self.assert_bad("again\n  " + line + "\n", 2)

    def assert_read(self, text, *rows):
        self.assertEqual(read_program(text).block, tuple(rows), text)


class RowText(unittest.TestCase):
    def test_all_forms(self):
        for row, text in ROWS.items():
            self.assertEqual(row_text(row), text)

    def test_no_row(self):
        for thing in [("either", (), ()), ("again", ()), ("call", 0), ("drop", "x"), ["ask", "x"], ("ask", "X"),
                      ("give", "x", True), ("give", "x", "1"), ("note", "x", "f", ["y"]), ("note", "x", "f", tuple("abcd")),
                      ("copy", "x"), ("again", (("ask", "x"),)), ("either", (("ask", "x"),), ())] + anything():
            with self.subTest(thing=type(thing)), self.assertRaises(NoRow):
                row_text(thing)
        for thing in anything():
            for row in (("ask", thing), ("copy", "x", thing), ("note", "x", thing, ()), (thing, "x"), ("again", thing)):
                with self.subTest(thing=type(thing)), self.assertRaises(NoRow):
                    row_text(row)


class ProgramText(unittest.TestCase):
    def test_programs(self):
        self.assertEqual(program_text(Program(())), "")
        self.assertEqual(program_text(Program(tuple(ROWS)[:3])), "x = f()\nx = f(y)\nx = f(y, x)\n")

    def test_blocks(self):
        ask = ("ask", "x")
        program = Program((("either", (ask, ("again", (("either", (), (ask,)), ask))), (("again", ()),)), ask))
        self.assertEqual(program_text(program), (
            "either\n  ask x\n  again\n    either\n    or\n      ask x\n    ask x\nor\n  again\nask x\n"))
        self.assertEqual(program_text(Program((("either", (), ()),))), "either\nor\n")

    def test_more_rows_than_a_program_may_have(self):
        rows = (("note", "x", "f", ()),) * 12
        wide = marked(Program(rows), tuple(range(12)))
        text = program_text(wide)
        self.assertEqual(text, "x = f()\nask x\n" * 12)
        with self.assertRaises(BadProgram) as caught:
            read_program(text)
        self.assertEqual(caught.exception.place, -1)


class Lines(TextCase):
    def test_all_forms(self):
        for row, text in ROWS.items():
            self.assert_read(text + "\n", row)
            self.assert_read("again\n  " + text + "\n", ("again", (row,)))

    def test_nothing(self):
        self.assert_read("")

    def test_what_is_no_string(self):
        for thing in anything() + [b"ask x\n", ["ask x\n"], 1, None]:
            if not isinstance(thing, str):
                with self.subTest(thing=type(thing)):
                    self.assert_bad(thing, 0)

    def test_strings_of_all_kinds(self):
        for text in odd_strings() + list("abc =(),-"):
            if text:
                self.assert_bad(text, 1)

    def test_blanks_more_or_fewer(self):
        for text in ("x =y", "x= y", "x=y", "x  = y", "x =  y", "x = y ", "x\t= y", "x =\ty", "ask  x", "ask x ", "askx",
                     "ask\tx", "ask", "ask ", "print", "print  x", "x = f (y)", "x = f( y)", "x = f(y )", "x = f(y) ",
                     "x = f(y,x)", "x = f(y,  x)", "x = f(y , x)", "x = f( )", "x = f(y, )", "x = f(, y)", "x = f(,)",
                     "either ", "again ", " = y", "x = ", "x =", "= y", "x", "x = 1 ", "x = - 1", "x = 1 0"):
            self.assert_bad_line(text)

    def test_lines_that_are_empty_or_blank(self):
        self.assert_bad("\n", 1)
        self.assert_bad("ask x\n\nask x\n", 2)
        self.assert_bad("ask x\n\n", 2)
        for line in (" ", "  ", "    ", "\t"):
            self.assert_bad_line(line)

    def test_names(self):
        for name in ("abcdefghi", "X", "x1", "x_y", "", "1", "-", "x.y", "(", "x y"):
            for text in (f"{name} = y", f"x = {name}(y)", f"x = f({name}y, {name}, x)", f"ask {name}", f"print {name}"):
                self.assert_bad_line(text)

    def test_three_and_four_parts(self):
        self.assert_read("x = f(a, b, c)\n", ("note", "x", "f", ("a", "b", "c")))
        for text in ("x = f(a, b, c, d)", "x = f(a, b, c, )", "x = f(a b)", "x = f(a", "x = fa)", "x = f(a))", "x = f((a)",
                     "x = (a)", "x = f)a(", "x = f(a)b", "x = f(1)", "x = f(a)(b)", "x = f(a, b", "x = f(g(a))"):
            self.assert_bad_line(text)

    def test_integers(self):
        for text in ("9" * 31, "-" + "9" * 31, "1" + "0" * 30, "00", "01", "-0", "-00", "-01", "+1", "+0", "--1", "-", "1-",
                     "1.0", "1e3", "0x1", "1_0", "1,0", "0" * 30, "(1)", "-x", "1x", "x1", "~1"):
            self.assert_bad_line("x = " + text)
        for k in (0, 1, -1, 10, -10, 10 ** 29, 10 ** 30 - 1, 1 - 10 ** 30):
            self.assert_read(f"x = {k}\n", ("give", "x", k))

    def test_names_that_are_words(self):
        self.assert_read("ask = print\n", ("copy", "ask", "print"))
        self.assert_read("either = again()\n", ("note", "either", "again", ()))
        self.assert_read("or = 1\nor = or(or)\n", ("give", "or", 1), ("note", "or", "or", ("or",)))
        self.assert_read("ask ask\nprint print\nask either\n", ("ask", "ask"), ("print", "print"), ("ask", "either"))

    def test_words_that_are_no_lines(self):
        for text in ("or x", "either x", "again x", "call 0", "block", "drop x", "note x", "copy x", "ASK x", "Either",
                     "else", "ask = ", "ask =", "ask x y", "ask x = y", "print x, y", "either or"):
            self.assert_bad_line(text)

    def test_the_last_line_without_its_line_feed(self):
        self.assert_bad("ask x", 1)
        self.assert_bad("ask x\nask x", 2)
        self.assert_bad("x", 1)
        self.assert_bad("ask x\n ", 2)
        self.assert_bad("either\nor", 2)
        self.assert_bad("either\n  ask x\n  ask x", 3)
        self.assert_bad("ask x\nbad\nask x", 2)
        self.assert_bad("bad\nask x", 1)
        self.assert_bad("again\n  ask x\n    ask x\nask x", 3)


class Margins(TextCase):
    X = ("ask", "x")

    def test_too_far_in(self):
        for text, line in (
            (" ask x\n", 1), ("  ask x\n", 1), ("ask x\n ask x\n", 2), ("ask x\n  ask x\n", 2), ("again\n ask x\n", 2),
            ("again\n   ask x\n", 2), ("again\n    ask x\n", 2), ("again\n  ask x\n    ask x\n", 3),
            ("again\n  ask x\n   ask x\n", 3), ("again\n  ask x\n ask x\n", 3), ("either\n or\n", 2),
            ("either\n  or\n", 2), ("either\n  ask x\n  or\n", 3), ("again\n\task x\n", 2), ("either\nor\n    ask x\n", 3),
            ("again\n  again\n      ask x\n", 3), ("  again\n", 1), ("  or\n", 1),
        ):
            self.assert_bad(text, line)

    def test_blocks_end_where_a_line_is_less_far_in(self):
        self.assert_read("again\n  again\n    ask x\nask x\n", ("again", (("again", (self.X,)),)), self.X)
        self.assert_read("again\n  again\n    ask x\n  ask x\n", ("again", (("again", (self.X,)), self.X)))
        self.assert_read("again\nagain\n", ("again", ()), ("again", ()))

    def test_either(self):
        self.assert_read("either\nor\n", ("either", (), ()))
        self.assert_read("either\n  ask x\nor\n", ("either", (self.X,), ()))
        self.assert_read("either\nor\n  ask x\n", ("either", (), (self.X,)))
        self.assert_read("either\n  either\n  or\nor\n  either\n  or\n",
                         ("either", (("either", (), ()),), (("either", (), ()),)))
        self.assert_read("either\nor\neither\nor\n", ("either", (), ()), ("either", (), ()))

    def test_an_or_without_an_either(self):
        for text, line in (("or\n", 1), ("ask x\nor\n", 2), ("again\nor\n", 2), ("again\n  or\n", 2),
                           ("again\n  ask x\nor\n", 3), ("either\nor\nask x\nor\n", 4)):
            self.assert_bad(text, line)

    def test_two_of_them(self):
        for text, line in (("either\nor\nor\n", 3), ("either\n  ask x\nor\n  ask x\nor\n", 5),
                           ("again\n  either\n  or\n  or\n", 4), ("either\nor\n  or\n", 3),
                           ("either\nor\n  either\n  or\nor\n", 5)):
            self.assert_bad(text, line)

    def test_an_either_that_lacks_its_own(self):
        for text, line in (
            ("either\n", 2), ("either\n  ask x\n", 3), ("either\nask x\n", 2), ("either\n  ask x\nask x\nor\n", 3),
            ("either\neither\nor\nor\n", 2), ("either\nagain\nor\n", 2), ("again\n  either\n", 3),
            ("again\n  either\n    ask x\nask x\n", 4), ("again\n  either\n    ask x\n  ask x\n", 4),
            ("either\n  either\nor\n", 3), ("either\n  either\n    ask x\nor\n", 4), ("either\n  either\n  or\n", 4),
            ("either\nor\n  either\n", 4), ("either\n  again\n    ask x\n", 4), ("ask x\neither\n  bad\n", 3),
            ("either\n  either\n    either\n", 4),
        ):
            self.assert_bad(text, line)


class Programs(TextCase):
    def assert_bad_program(self, text, place):
        with self.assertRaises(BadProgram) as caught:
            read_program(text)
        self.assertEqual(caught.exception.place, place)

    def test_too_deep(self):
        self.assert_read("again\n  again\n    again\n", ("again", (("again", (("again", ()),)),)))
        for deep in (4, 5, 90):
            self.assert_bad_program("".join("  " * at + "again\n" for at in range(deep)), 3)
        self.assert_bad_program("ask x\neither\n  again\n    again\n      either\n      or\nor\n", 4)

    def test_too_long(self):
        self.assert_read("ask x\n" * 12, *[("ask", "x")] * 12)
        self.assert_bad_program("ask x\n" * 13, -1)
        self.assert_bad_program("ask x\n" * 3000, -1)
        self.assert_bad_program("ask x\nagain\n" + "  ask x\n" * 13, 1)

    def test_too_many_rows_and_names(self):
        self.assert_bad_program(("again\n" + "  ask x\n" * 10) * 3, -1)
        self.assert_bad_program("".join(f"ask {name}\n" for name in "abcdefghi"), -1)
        self.assertEqual(len(read_program("".join(f"ask {name}\n" for name in "abcdefgh")).block), 8)

    def test_a_bad_line_comes_ahead(self):
        self.assert_bad("ask x\n" * 13 + "bad\n", 14)
        self.assert_bad("ask x\n" * 13 + "ask x", 14)
        self.assert_bad("".join("  " * at + "again\n" for at in range(9)) + "either\n", 11)


class Drawn(TextCase):
    def test_there_and_back(self):
        for block in some_blocks(200, 101) + loopy_blocks(100, 102):
            program = Program(block)
            self.assertEqual(read_program(program_text(program)), program)
            self.assertEqual(plain_read(program_text(program)), block)
            wide = marked(program, surely(program))
            self.assertEqual(plain_read(program_text(wide)), wide.block)

    def assert_read_plainly(self, text):
        expected = plain_read(text)
        if isinstance(expected, int):
            self.assert_bad(text, expected)
            return "bad"
        try:
            program = Program(expected)
        except BadProgram as bad:
            with self.assertRaises(BadProgram, msg=text) as caught:
                read_program(text)
            self.assertEqual(caught.exception.place, bad.place)
            return "no program"
        self.assertEqual(read_program(text), program)
        return "program"

    def test_one_sign_changed(self):
        chance = random.Random(103)
        counted = {"bad": 0, "program": 0, "no program": 0}
        for block in some_blocks(100, 104) + loopy_blocks(100, 105):
            text = program_text(Program(block))
            for _ in range(12):
                at = chance.randrange(len(text) + 1)
                sign = chance.choice(["", " ", "  ", "\n", "x", "0", "-", "or\n", "either\n", "again\n", ", ", "(", ")"])
                counted[self.assert_read_plainly(text[:at] + sign + text[at + chance.randint(0, 2) :])] += 1
        self.assertGreater(min(counted["bad"], counted["program"]), 150)

    def test_one_line_changed(self):
        chance = random.Random(106)
        counted = {"bad": 0, "program": 0, "no program": 0}
        lines = ["ask x", "or", "either", "again", "x = f(y)", "", "x = 07", "or "]
        for block in some_blocks(150, 107) + loopy_blocks(150, 108):
            before = program_text(Program(block)).split("\n")[:-1]
            for _ in range(6):
                after = list(before)
                at = chance.randint(0, len(after))
                margin = "  " * chance.randint(0, 3) + " " * (chance.random() < 0.05)
                if chance.random() < 0.4:
                    del after[at : at + 1]
                if chance.random() < 0.8:
                    after.insert(at, margin + chance.choice(lines))
                counted[self.assert_read_plainly("".join(line + "\n" for line in after))] += 1
        self.assertGreater(min(counted["bad"], counted["program"]), 200)
        self.assertGreater(counted["no program"], 0)

    def test_lines_by_chance(self):
        chance = random.Random(109)
        counted = {"bad": 0, "program": 0, "no program": 0}
        for _ in range(4000):
            deep, lines = 0, []
            for _ in range(chance.randint(0, 8)):
                word = chance.choice(("either", "or", "again", "ask x", "or"))
                lines.append("  " * deep + word + "\n")
                deep = max(0, deep + chance.choice((-2, -1, 0, 0, 1) if word == "ask x" else (0, 0, 1, 1, -1)))
            counted[self.assert_read_plainly("".join(lines))] += 1
        self.assertGreater(min(counted["bad"], counted["program"]), 400)


if __name__ == "__main__":
    unittest.main()
