"""Promises 0.2 to 0.5, 1.1 and 1.2: programs, places and ways."""

import itertools
import unittest

from odd import anything, odd_integers, odd_strings, odd_things, odd_tuples
from reference import reference_nexts, some_blocks, stands_of
from putoffpiles.errors import BadProgram, NoPlace
from putoffpiles.programs import Program, is_way, names, nexts, row_at

ASK = ("ask", "t")
LETTERS = "abcdefghi"


def again_deep(deep, core=()):
    """A row whose innermost block is so much deeper than its own."""
    row = ("again", core)
    for _ in range(deep - 1):
        row = ("again", (row,))
    return row


class ProgramCase(unittest.TestCase):
    def assert_bad(self, block, place):
        with self.assertRaises(BadProgram) as caught:
            Program(block)
        self.assertEqual(caught.exception.place, place)
        self.assertIs(type(caught.exception.place), int)

    def assert_bad_row(self, row):
        """The row is of no form, wherever it stands."""
        self.assert_bad((row,), 0)
        self.assert_bad((ASK, row, ASK), 1)
        self.assert_bad((ASK, ("either", (ASK,), (ASK, row)), None), 4)
        self.assert_bad((("again", (row,)),), 1)

    def assert_good_row(self, row):
        self.assertEqual(Program((row,)).block, (row,))
        self.assertEqual(Program((ASK, ("again", (row,)))).block, (ASK, ("again", (row,))))


class Forms(ProgramCase):
    def test_rows_of_all_forms(self):
        for row in (
            ("note", "x", "f", ()), ("note", "x", "f", ("y",)), ("note", "x", "x", ("x", "x", "x")),
            ("note", "note", "note", ("note",)), ("copy", "x", "y"), ("copy", "x", "x"), ("give", "x", 0),
            ("give", "x", -7), ("give", "x", 10 ** 30 - 1), ("ask", "x"), ("print", "x"), ("ask", "ask"),
            ("either", (), ()), ("either", (ASK,), ()), ("either", (), (ASK, ASK)), ("again", ()), ("again", (ASK,)),
        ):
            with self.subTest(row=row):
                self.assert_good_row(row)

    def test_the_empty_block(self):
        self.assertEqual(Program(()).block, ())

    def test_what_is_no_tuple(self):
        for thing in [True, False] + odd_things() + odd_integers() + odd_strings() + [[ASK]]:
            with self.subTest(thing=type(thing)):
                self.assert_bad(thing, -1)

    def test_rows_that_are_none(self):
        for thing in anything():
            with self.subTest(thing=type(thing)):
                self.assert_bad_row(thing)

    def test_lists_where_tuples_are_asked_for(self):
        self.assert_bad([("ask", "t")], -1)
        self.assert_bad_row(["ask", "t"])
        self.assert_bad_row(("note", "x", "f", ["y"]))
        self.assert_bad_row(("note", "x", "f", []))
        self.assert_bad_row(("again", []))
        self.assert_bad_row(("either", (), [ASK]))
        self.assert_bad_row(("either", [], ()))

    def test_flags_where_integers_are_asked_for(self):
        self.assert_bad_row(("give", "x", True))
        self.assert_bad_row(("give", "x", False))

    def test_gives_of_anything_else(self):
        for thing in [True, False] + odd_things() + odd_strings() + odd_tuples():
            with self.subTest(thing=type(thing)):
                self.assert_bad_row(("give", "x", thing))

    def test_names_of_no_one_eight_and_nine_letters(self):
        for name, good in (("", False), ("a", True), ("z", True), ("abcdwxyz", True), ("abcdefghi", False)):
            for row in (
                ("note", name, "f", ()), ("note", "x", name, ()), ("note", "x", "f", (name,)),
                ("note", "x", "f", ("y", "y", name)), ("copy", name, "x"), ("copy", "x", name), ("give", name, 1),
                ("ask", name), ("print", name),
            ):
                with self.subTest(row=row):
                    if good:
                        self.assert_good_row(row)
                    else:
                        self.assert_bad_row(row)

    def test_names_that_are_none(self):
        for name in ["A", "a1", "a b", "a_b", "a\n", "\n", " ", "`", "{"] + anything():
            for row in (
                ("note", name, "f", ()), ("note", "x", name, ()), ("note", "x", "f", (name,)), ("copy", name, "x"),
                ("copy", "x", name), ("give", name, 1), ("ask", name), ("print", name),
            ):
                with self.subTest(name=type(name), word=row[0]):
                    self.assert_bad((row,), 0)

    def test_words_that_are_none(self):
        for word in ["Note", "notes", "call", "or", "drop", "ask ", ""] + anything():
            for rest in (("x",), ("x", "y"), ("x", "f", ()), ("x", 0), ((),), ((), ()), (0,), ()):
                with self.subTest(word=type(word), rest=rest):
                    self.assert_bad(((word,) + rest,), 0)

    def test_rows_too_short_or_too_long(self):
        for row in (
            ("note", "x", "f", ("y",)), ("copy", "x", "y"), ("give", "x", 1), ASK, ("print", "x"), ("either", (), ()),
            ("again", ()),
        ):
            with self.subTest(row=row):
                self.assert_bad_row(row[:-1])
                self.assert_bad_row(row[:1])
                self.assert_bad_row(row + (row[-1],))
                self.assert_bad_row(row + (None,))
                self.assert_bad_row(list(row))

    def test_calls_are_no_rows_of_programs(self):
        self.assert_bad_row(("call", 0))

    def test_parts(self):
        self.assert_good_row(("note", "x", "f", ("x", "y", "z")))
        self.assert_bad_row(("note", "x", "f", ("x", "y", "z", "z")))
        for thing in anything():
            if thing != ():
                with self.subTest(thing=type(thing)):
                    self.assert_bad_row(("note", "x", "f", thing))

    def test_blocks_of_rows(self):
        for thing in [True, False] + odd_things() + odd_integers() + odd_strings():
            with self.subTest(thing=type(thing)):
                self.assert_bad_row(("again", thing))
                self.assert_bad_row(("either", thing, ()))
                self.assert_bad_row(("either", (), thing))

    def test_things_nested_forty_deep(self):
        row = ASK
        for _ in range(18):
            row = ("again", (row,))
        self.assert_bad((row,), 3)
        row = ASK
        for _ in range(18):
            row = ("either", (), (row,))
        self.assert_bad((ASK, row), 4)


class Limits(ProgramCase):
    def test_twelve_and_thirteen_rows_in_the_own_block(self):
        self.assertEqual(len(Program((ASK,) * 12).block), 12)
        self.assert_bad((ASK,) * 13, -1)

    def test_twelve_and_thirteen_rows_in_a_block_within(self):
        for row in (("again", (ASK,) * 12), ("either", (ASK,) * 12, ()), ("either", (ASK,) * 12, (ASK,) * 12)):
            self.assertEqual(Program((row,)).block, (row,))
        for row in (("again", (ASK,) * 13), ("either", (ASK,) * 13, ()), ("either", (), (ASK,) * 13)):
            self.assert_bad((ASK, row), 1)
            self.assert_bad((("again", (ASK, ASK, row)),), 3)

    def test_thirty_and_thirty_one_rows_in_all(self):
        eight = (ASK,) * 8
        block = (("again", eight), ("either", eight, ()), ("either", (), eight), ASK, ASK, ASK)
        self.assertEqual(len(nexts_of_all(Program(block))), 30 + 1)
        self.assert_bad(block + (ASK,), -1)
        self.assert_bad((("again", eight + (ASK,)),) + block[1:], -1)

    def test_four_and_five_deep(self):
        self.assertEqual(Program((again_deep(3, (ASK,)),)).block, (again_deep(3, (ASK,)),))
        self.assert_bad((again_deep(4),), 3)
        self.assert_bad((again_deep(4, (ASK,)),), 3)
        self.assert_bad((ASK, ("either", (again_deep(2),), (ASK, again_deep(3)))), 7)

    def test_four_and_five_deep_by_eithers(self):
        for blocks in (((), ()), ((ASK,), ()), ((), (ASK,))):
            good = ("either", (), (("either", (("either",) + blocks,), ()),))
            self.assertEqual(Program((ASK, good)).block, (ASK, good))
            self.assert_bad((ASK, ("either", (ASK, good), ())), 5)
            self.assert_bad((ASK, ("again", (good, ASK))), 4)

    def test_eight_and_nine_names(self):
        eight = tuple(("give", name, 1) for name in LETTERS[:8])
        self.assertEqual(names(Program(eight)), tuple(LETTERS[:8]))
        for row in (
            ("give", "i", 1), ("ask", "i"), ("print", "i"), ("copy", "i", "a"), ("copy", "a", "i"),
            ("note", "i", "f", ()), ("note", "a", "f", ("b", "i")), ("again", (("ask", "i"),)),
            ("either", (), (("ask", "i"),)),
        ):
            with self.subTest(row=row):
                self.assert_bad(eight + (row,), -1)
                self.assert_bad((row,) + eight, -1)

    def test_ops_are_not_counted(self):
        block = tuple(("note", name, "op" + name, ()) for name in LETTERS[:8])
        self.assertEqual(names(Program(block)), tuple(LETTERS[:8]))

    def test_a_lot_of_rows(self):
        self.assert_bad((ASK,) * 10000, -1)


class SeveralFaults(ProgramCase):
    def test_the_first_row_is_told(self):
        self.assert_bad((ASK, ("ask", ""), ("give", "x", True)), 1)
        self.assert_bad((("either", (ASK,), (None,)), None), 2)
        self.assert_bad((("either", (ASK, None), (None,)), None), 2)
        self.assert_bad((("again", ()), ("either", (), ()), ("again", (ASK, ("again", (ASK, ())))), ()), 6)

    def test_rows_come_ahead_of_all_else(self):
        nine = tuple(("give", name, 1) for name in LETTERS)
        self.assert_bad(nine + (None,), 9)
        self.assert_bad((ASK,) * 15 + (None, ASK), 15)
        self.assert_bad((("again", (ASK,) * 12),) * 3 + (None,), 39)

    def test_a_row_whose_block_is_too_long_comes_ahead_of_its_rows(self):
        self.assert_bad((("again", (None,) * 13),), 0)
        self.assert_bad((("either", (None,), (ASK,) * 13),), 0)
        self.assert_bad((("either", (None,), [ASK]),), 0)
        self.assert_bad((("either", (None,), (ASK,)),), 1)

    def test_a_row_whose_block_is_too_deep_comes_ahead_of_its_rows(self):
        self.assert_bad((again_deep(4, (None,)),), 3)
        self.assert_bad((again_deep(3, (None,)),), 3)

    def test_all_that_is_told_as_a_whole(self):
        self.assert_bad(tuple(("give", name, 1) for name in LETTERS + "jklmn"), -1)


class Equality(unittest.TestCase):
    def test_equal_just_if_the_block_is(self):
        for left, right in itertools.product(some_blocks(40, 1), repeat=2):
            self.assertEqual(Program(left) == Program(right), left == right)
            self.assertEqual(Program(left) != Program(right), left != right)

    def test_a_block_of_its_own(self):
        block = (("note", "x", "f", ("y",)), ("again", (("give", "y", 2),)))
        same = (("note", "x", "f", tuple(["y"])), tuple(["again", (("give", "y", 2),)]))
        self.assertTrue(Program(block) == Program(same))

    def test_nothing_of_another_class_is_equal(self):
        for thing in anything() + [(ASK,)]:
            if not isinstance(thing, Program):
                self.assertIs(Program((ASK,)) == thing, False)
                self.assertIs(thing == Program((ASK,)), False)


def nexts_of_all(program):
    """The list of nexts of all places, the end's too."""
    found = []
    while True:
        try:
            found.append(nexts(program, len(found)))
        except NoPlace:
            return found


class Places(unittest.TestCase):
    def test_names(self):
        self.assertEqual(names(Program(())), ())
        self.assertEqual(names(Program((("note", "x", "f", ()),))), ("x",))
        block = (
            ("note", "d", "op", ("c", "h")), ("copy", "b", "g"), ("give", "a", 3),
            ("either", (("ask", "f"),), (("again", (("print", "e"),)),)), ("ask", "d"),
        )
        self.assertEqual(names(Program(block)), tuple("abcdefgh"))

    def test_names_are_ordered_as_python_orders(self):
        program = Program((("ask", "b"), ("ask", "aa"), ("ask", "a"), ("ask", "ab")))
        self.assertEqual(names(program), ("a", "aa", "ab", "b"))

    def test_row_at(self):
        inner = ("again", (("give", "x", 1),))
        program = Program((ASK, ("either", (inner, ("ask", "u")), (("print", "v"),)), ("copy", "x", "y")))
        rows = [ASK, program.block[1], inner, ("give", "x", 1), ("ask", "u"), ("print", "v"), ("copy", "x", "y")]
        self.assertEqual([row_at(program, place) for place in range(7)], rows)

    def test_row_at_what_is_no_place_of_a_row(self):
        for program, end in ((Program(()), 0), (Program((ASK, ASK)), 2), (Program((("again", (ASK,)),)), 2)):
            for thing in [end, end + 1] + anything():
                with self.subTest(thing=type(thing)), self.assertRaises(NoPlace):
                    row_at(program, thing)

    def test_nexts_of_what_is_no_place(self):
        for program, end in ((Program(()), 0), (Program((ASK, ASK)), 2), (Program((("again", (ASK,)),)), 2)):
            self.assertEqual(nexts(program, end), ())
            for thing in [end + 1] + anything():
                with self.subTest(thing=type(thing)), self.assertRaises(NoPlace):
                    nexts(program, thing)

    def test_nexts_of_plain_rows(self):
        self.assertEqual(nexts_of_all(Program((ASK, ASK, ASK))), [(1,), (2,), (3,), ()])

    def test_nexts_of_an_either(self):
        self.assertEqual(nexts_of_all(Program((("either", (ASK, ASK), (ASK,)), ASK))),
                         [(1, 3), (2,), (4,), (4,), (5,), ()])

    def test_nexts_of_an_either_with_empty_blocks(self):
        self.assertEqual(nexts_of_all(Program((("either", (), ()),))), [(1, 1), ()])
        self.assertEqual(nexts_of_all(Program((("either", (ASK,), ()), ASK))), [(1, 2), (2,), (3,), ()])
        self.assertEqual(nexts_of_all(Program((("either", (), (ASK,)), ASK))), [(2, 1), (2,), (3,), ()])

    def test_nexts_of_an_again(self):
        self.assertEqual(nexts_of_all(Program((("again", (ASK, ASK)), ASK))), [(1, 3), (2,), (0,), (4,), ()])
        self.assertEqual(nexts_of_all(Program((("again", (ASK,)),))), [(1, 2), (0,), ()])

    def test_nexts_of_an_empty_again(self):
        self.assertEqual(nexts_of_all(Program((ASK, ("again", ())))), [(1,), (1, 2), ()])

    def test_nexts_of_nested_loops(self):
        block = (("again", (("again", (ASK,)), ("again", (("again", ()),)))), ASK)
        self.assertEqual(nexts_of_all(Program(block)), [(1, 5), (2, 3), (1,), (4, 0), (4, 3), (6,), ()])

    def test_nexts_of_an_either_at_the_end_of_an_again(self):
        block = (("again", (ASK, ("either", (ASK, ("either", (), (ASK,))), ()))),)
        self.assertEqual(nexts_of_all(Program(block)), [(1, 6), (2,), (3, 0), (4,), (0, 5), (0,), ()])

    def test_all_against_the_reference(self):
        for block in some_blocks(400, 2):
            program = Program(block)
            self.assertEqual(nexts_of_all(program), reference_nexts(block))
            rows = [stand.row for stand in stands_of(block)]
            self.assertEqual([row_at(program, place) for place in range(len(rows))], rows)


class Ways(unittest.TestCase):
    def setUp(self):
        self.program = Program((ASK, ("again", (("either", (ASK,), ()),)), ASK))

    def test_ways(self):
        for way in ((0,), (3,), (5,), (0, 1), (0, 1, 4, 5), (1, 2, 3, 1, 2, 1, 4), (2, 1), (4, 5), (3, 1, 4, 5)):
            with self.subTest(way=way):
                self.assertIs(is_way(self.program, way), True)

    def test_what_is_none(self):
        for thing in ((), (6,), (-1,), (0, 2), (1, 0), (0, 0), (0, 1, 4, 5, 6), (5, 0), (2, 4), (0, 1, 2, 3, 4),
                      [0, 1], (0, True), (False, 1), (False,), (0, "1"), (0, None), ((0, 1),), ([0],)):
            with self.subTest(thing=thing):
                self.assertIs(is_way(self.program, thing), False)

    def test_the_end_alone(self):
        self.assertIs(is_way(Program(()), (0,)), True)
        self.assertIs(is_way(Program(()), (0, 0)), False)

    def test_an_empty_again_leads_to_itself(self):
        self.assertIs(is_way(Program((("again", ()),)), (0, 0, 0, 1)), True)

    def test_any_object(self):
        for thing in anything():
            with self.subTest(thing=type(thing)):
                self.assertIs(is_way(self.program, thing), False)

    def test_all_short_tuples_against_nexts(self):
        for block in some_blocks(60, 3):
            program = Program(block)
            leads = reference_nexts(block)
            places = range(-1, min(len(leads), 6) + 1)
            for size in (1, 2, 3):
                for way in itertools.product(places, repeat=size):
                    good = all(0 <= place < len(leads) for place in way)
                    good = good and all(after in leads[place] for place, after in zip(way, way[1:]))
                    self.assertIs(is_way(program, way), good)

    def test_a_long_way(self):
        way = (0,) + (1, 2) * 5000 + (1, 4, 5)
        self.assertIs(is_way(self.program, way), True)
        self.assertIs(is_way(self.program, way + (5,)), False)


if __name__ == "__main__":
    unittest.main()
