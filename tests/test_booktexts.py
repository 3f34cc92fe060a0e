"""Promises 0.2 to 0.5 and 9.3: texts of books, there and back."""

import random
import unittest

from odd import anything, odd_strings
from reference_books import plain_bad_part, some_books
from reference_texts import plain_read_blocks
from rows import ASK, call, either
from putoffpiles.books import Book, as_book, put_in
from putoffpiles.booktexts import book_text, read_book
from putoffpiles.errors import BadBook, BadText, NoRow
from putoffpiles.marks import marked
from putoffpiles.programs import Program
from putoffpiles.reading import read_program
from putoffpiles.texts import program_text, row_text


class TextCase(unittest.TestCase):
    def assert_bad(self, text, line):
        with self.assertRaises(BadText, msg=repr(text)) as caught:
            read_book(text)
        self.assertEqual(caught.exception.line, line, text)

    def assert_bad_book(self, text, part):
        with self.assertRaises(BadBook, msg=repr(text)) as caught:
            read_book(text)
        self.assertEqual(caught.exception.part, part, text)

    def assert_read(self, text, *blocks):
        self.assertEqual(read_book(text).blocks, blocks, text)
        self.assertEqual(book_text(Book(blocks)), text)


class BookText(TextCase):
    def test_books(self):
        self.assert_read("block\n", ())
        self.assert_read("block\n  call 1\nblock\n", (call(1),), ())
        self.assert_read("block\n  x = f(y, z)\n  call 1\n  print x\nblock\n  ask y\n  call 2\nblock\n  y = -7\n  y = x\n",
                         (("note", "x", "f", ("y", "z")), call(1), ("print", "x")), (("ask", "y"), call(2)),
                         (("give", "y", -7), ("copy", "y", "x")))

    def test_blocks_within_stand_further_in(self):
        self.assert_read(
            "block\n  either\n    call 0\n    again\n      either\n      or\n        call 1\n  or\n    ask x\n  call 1\n"
            "block\n  again\n  ask x\n",
            (either((call(0), ("again", (either((), (call(1),)),))), (ASK,)), call(1)), (("again", ()), ASK))

    def test_a_book_of_a_program(self):
        program = Program((("again", (ASK,)), ASK))
        self.assertEqual(book_text(as_book(program)), "block\n  again\n    ask x\n  ask x\n")
        wide = marked(Program((("note", "x", "f", ()),) * 12), tuple(range(12)))
        self.assert_bad_book(book_text(as_book(wide)), (0, -1))

    def test_programs_have_no_calls(self):
        self.assertEqual(program_text(put_in(Book(((call(1), ASK), (ASK,))))), "ask x\nask x\n")
        for text in ("call 0\n", "block\n", "block\n  ask x\n"):
            with self.assertRaises(BadText) as caught:
                read_program(text)
            self.assertEqual(caught.exception.line, 1)
        with self.assertRaises(NoRow):
            row_text(call(0))


class ReadBook(TextCase):
    def test_what_is_no_string(self):
        for thing in anything() + [b"block\n", ["block\n"], None, 0]:
            if not isinstance(thing, str):
                with self.subTest(thing=type(thing)):
                    self.assert_bad(thing, 0)

    def test_strings_of_all_kinds(self):
        for text in odd_strings():
            if text:
                self.assert_bad(text, 1)
            self.assert_bad("block\n  " + text + "\n", 2)

    def test_nothing(self):
        self.assert_bad_book("", (-1,))
        self.assert_bad("\n", 1)
        self.assert_bad(" ", 1)

    def test_a_first_line_that_is_no_block(self):
        for line in ("ask x", "call 0", "  ask x", "  block", " block", "block ", "Block", "blocks", "block 0", "or",
                     "either", "again", "  again", "", "block = x"):
            self.assert_bad(line + "\n", 1)
            self.assert_bad(line + "\nblock\n", 1)

    def test_rows_that_are_not_further_in(self):
        for line in ("ask x", "call 0", "x = y", "either", "again", "or", "block = x", "block x"):
            self.assert_bad("block\n" + line + "\n", 2)
            self.assert_bad("block\n  ask x\n" + line + "\n", 3)

    def test_blocks_that_are_further_in(self):
        for text, line in (("block\n  block\n", 2), ("block\n  again\n    block\n", 3), ("block\n  ask x\n  block\n", 3),
                           ("block\n block\n", 2), ("block\n    block\n", 2)):
            self.assert_bad(text, line)

    def test_margins(self):
        for text, line in (("block\n ask x\n", 2), ("block\n   ask x\n", 2), ("block\n    ask x\n", 2),
                           ("block\n  again\n  ask x\n     ask x\n", 4), ("block\n  again\n      ask x\n", 3),
                           ("block\n  ask x\n    ask x\n", 3), ("block\n\task x\n", 2), ("block\n  ask x\n\n", 3)):
            self.assert_bad(text, line)
        self.assert_read("block\n  again\n    ask x\n  ask x\n", (("again", (ASK,)), ASK))

    def test_numbers_of_calls(self):
        for number in ("00", "01", "-0", "-1", "+1", "1 ", " 1", "", "1.0", "x", "1000000000", "0000000001", "1_0", "1e1"):
            self.assert_bad("block\n  ask x\n  call " + number + "\n", 3)
        for number in ("1", "2", "10", "999999999", "100000000"):
            self.assert_bad_book("block\n  ask x\n  call " + number + "\n", (0, 1))
        for line in ("call", "call  0", "call0", "Call 0", "call 0 0", "call 0,", "call x", "call(0)", "call = 0 0"):
            self.assert_bad("block\n  " + line + "\n", 2)

    def test_names_that_are_words(self):
        self.assert_read("block\n  call = block\n  block = call()\n  ask call\n  call = 1\n  print block\n",
                         (("copy", "call", "block"), ("note", "block", "call", ()), ("ask", "call"), ("give", "call", 1),
                          ("print", "block")))

    def test_an_either_that_lacks_its_own(self):
        for text, line in (
            ("block\n  either\n", 3), ("block\n  either\nblock\n", 3), ("block\n  either\n    ask x\nblock\n  or\n", 4),
            ("block\n  either\n    either\n    or\nblock\n", 5), ("block\n  either\n  ask x\n  or\n", 3),
            ("block\n  either\nor\n", 3), ("block\n  again\n    either\n  ask x\n", 4), ("block\n  either\n    call 0\n", 4),
        ):
            self.assert_bad(text, line)
        self.assert_bad("block\n  or\n", 2)
        self.assert_bad("block\nblock\n  or\n", 3)
        self.assert_bad("block\n  either\n  or\n  or\n", 4)
        self.assert_read("block\n  either\n  or\n", (either(()),))

    def test_the_last_line_without_its_line_feed(self):
        for text, line in (("block", 1), ("block\n  ask x", 2), ("block\n  ask x\nblock", 3), ("block\n ", 2),
                           ("block\n  bad\n  ask x", 2), ("block\n  either\n  or", 3), ("block\n  either\n    ask x", 3)):
            self.assert_bad(text, line)

    def test_bad_books(self):
        self.assert_bad_book("block\n" * 7, (-1,))
        self.assert_bad_book("block\nblock\n", ("apart", 1))
        self.assert_bad_book("block\n  call 0\n", ("endless", 0))
        self.assert_bad_book("block\n  call 1\nblock\n  ask x\n  again\n    call 2\n", (1, 2))
        self.assert_bad_book("block\n" + "  ask x\n" * 13, (0, -1))
        self.assert_bad_book("block\n" + "".join("  " * at + "again\n" for at in range(1, 90)), (0, 3))
        self.assert_bad_book("block\n  call 1\n" + "".join(f"  ask {a}\n" for a in "abcde") + "block\n"
                             + "".join(f"  ask {a}\n" for a in "fghi"), (-1,))

    def test_a_bad_line_comes_ahead(self):
        self.assert_bad("block\n" * 7 + "bad\n", 8)
        self.assert_bad("block\n  call 7\n" + "  ask x\n" * 13 + "  x\n", 16)
        self.assert_bad("block\n  call 0\nblock", 3)


class Drawn(TextCase):
    def assert_read_plainly(self, text):
        expected = plain_read_blocks(text)
        if isinstance(expected, int):
            self.assert_bad(text, expected)
            return "bad"
        part = plain_bad_part(expected)
        if part is not None:
            self.assert_bad_book(text, part)
            return "no book"
        self.assertEqual(read_book(text).blocks, expected)
        return "book"

    def test_there_and_back(self):
        for blocks in some_books(300, 401) + some_books(100, 402, most_blocks=6):
            text = book_text(Book(blocks))
            self.assertEqual(read_book(text), Book(blocks))
            self.assertEqual(plain_read_blocks(text), blocks)

    def test_one_sign_changed(self):
        chance = random.Random(403)
        counted = {"bad": 0, "book": 0, "no book": 0}
        for blocks in some_books(200, 404):
            text = book_text(Book(blocks))
            for _ in range(12):
                at = chance.randrange(len(text) + 1)
                sign = chance.choice(["", " ", "  ", "\n", "x", "0", "3", "block\n", "  or\n", "  call 1\n", "either\n", ")"])
                counted[self.assert_read_plainly(text[:at] + sign + text[at + chance.randint(0, 2) :])] += 1
        self.assertGreater(min(counted.values()), 10)

    def test_one_line_changed(self):
        chance = random.Random(405)
        counted = {"bad": 0, "book": 0, "no book": 0}
        lines = ["block", "call 0", "call 1", "call 5", "ask x", "or", "either", "again", "x = f(y)", "", "call 01"]
        for blocks in some_books(300, 406):
            before = book_text(Book(blocks)).split("\n")[:-1]
            for _ in range(6):
                after = list(before)
                at = chance.randint(0, len(after))
                if chance.random() < 0.4:
                    del after[at : at + 1]
                if chance.random() < 0.8:
                    after.insert(at, "  " * chance.randint(0, 3) + " " * (chance.random() < 0.05) + chance.choice(lines))
                counted[self.assert_read_plainly("".join(line + "\n" for line in after))] += 1
        self.assertGreater(min(counted.values()), 100)

    def test_lines_by_chance(self):
        chance = random.Random(407)
        counted = {"bad": 0, "book": 0, "no book": 0}
        for _ in range(4000):
            deep, lines = 0, ["block\n"]
            for _ in range(chance.randint(0, 7)):
                word = chance.choice(("either", "or", "again", "ask x", "call 0", "call 1", "block", "or"))
                deep = 0 if word == "block" else max(1, deep)
                lines.append("  " * deep + word + "\n")
                deep = max(0, deep + chance.choice((-1, 0, 0, 1) if word[:3] in ("ask", "cal") else (0, 0, 1, 1, 1)))
            counted[self.assert_read_plainly("".join(lines))] += 1
        self.assertGreater(min(counted.values()), 200)


if __name__ == "__main__":
    unittest.main()
