"""Promises 0.2 to 0.5, 5.1 and 5.2: what is surely asked, and which rows to mark so that nothing piles up."""

import random
import unittest

from odd import anything
from reference import loopy_blocks, reference_nexts, some_blocks
from reference_piles import (
    TERMS, has_plain_ring, plain_bounds, plain_marked, plain_note_places, plain_vain_way)
from putoffpiles.errors import Endless, NoMarks, NoRow, TooMany
from putoffpiles.holders import holders
from putoffpiles.marks import bounds, is_quiet, marked, surely, vain_way
from putoffpiles.piles import fullest, greatest, is_closed, ring, shapes
from putoffpiles.programs import Program, is_way, names, nexts, row_at
from putoffpiles.runs import Run, told

LOOP = Program((("give", "t", 0), ("again", (("note", "t", "add", ("t",)),)), ("print", "t")))
LAST = Program((("give", "a", 1), ("again", (("note", "c", "f", ("a",)),)), ("print", "c")))


def looped(*rows):
    return Program((("again", rows),))


def note(name, *ys):
    return ("note", name, "f", ys)


def program_of(*rows):
    return Program(tuple(rows))


class VainWay(unittest.TestCase):
    def test_a_note_that_is_never_asked(self):
        self.assertEqual(vain_way(program_of(note("x")), 0), (0, 1))
        self.assertEqual(vain_way(program_of(note("x"), ("ask", "y")), 0), (0, 1, 2))

    def test_a_note_that_is_asked(self):
        for row in (("ask", "x"), ("print", "x")):
            self.assertIsNone(vain_way(program_of(note("x"), row), 0))
        self.assertIsNone(vain_way(program_of(note("x"), note("y", "x"), ("give", "x", 0), ("ask", "y")), 0))
        self.assertIsNone(vain_way(program_of(note("x"), ("copy", "y", "x"), note("x"), ("ask", "y")), 0))

    def test_a_note_that_is_gone_is_not_worked_out(self):
        self.assertEqual(vain_way(program_of(note("x"), ("give", "x", 0), ("ask", "x")), 0), (0, 1, 2, 3))
        self.assertEqual(vain_way(program_of(note("x"), note("x"), ("ask", "x")), 0), (0, 1, 2, 3))
        self.assertIsNone(vain_way(program_of(note("x"), note("x"), ("ask", "x")), 1))

    def test_a_note_that_was_never_made_counts_for_nothing(self):
        self.assertIsNone(vain_way(program_of(("either", (note("x"), ("ask", "x")), ())), 1))
        self.assertEqual(vain_way(LAST, 2), (0, 1, 2, 1, 2, 1, 3, 4))

    def test_some_note_of_the_row_is_enough(self):
        program = program_of(("again", (note("x"), ("either", (("ask", "x"),), ()))), ("ask", "x"))
        self.assertEqual(vain_way(program, 1), (0, 1, 2, 0, 1, 2, 0, 4, 5))

    def test_the_shortest(self):
        program = program_of(note("x"), ("either", (("give", "y", 0), ("give", "y", 0)), (("give", "y", 1),)))
        self.assertEqual(vain_way(program, 0), (0, 1, 4, 5))

    def test_the_least_of_the_shortest(self):
        program = program_of(note("x"), ("either", (("give", "y", 0),), (("give", "y", 1),)))
        self.assertEqual(vain_way(program, 0), (0, 1, 2, 4))
        program = program_of(note("x"), ("either", (), (("ask", "y"),)), ("ask", "y"))
        self.assertEqual(vain_way(program, 0), (0, 1, 3, 4))

    def test_which_note_it_is_is_left_open_till_the_end(self):
        # The first note of the row is asked on the lesser side, the second one is not on the greater side.
        program = program_of(
            ("again", (note("x"), ("either", (("ask", "x"),), (("copy", "y", "x"),)))), ("ask", "y"), ("ask", "x"))
        self.assertEqual(vain_way(program, 1), plain_vain_way(program.block, 1))

    def test_no_way_to_an_end_that_does_not_work_it_out(self):
        program = program_of(("again", (note("x"), ("ask", "x"))))
        self.assertIsNone(vain_way(program, 1))

    def test_no_row(self):
        for program in (LOOP, LAST):
            for place in [0, 1, 3, 4, 5, -1, True, False, "2", (2,), [2]] + anything():
                with self.subTest(place=type(place)), self.assertRaises(NoRow):
                    vain_way(program, place)
        for place in [0, 1] + anything():
            with self.assertRaises(NoRow):
                vain_way(program_of(), place)

    def test_more_than_six_names_are_no_matter(self):
        program = program_of(*(note(name) for name in "abcdefgh"), *(("ask", name) for name in "abcd"))
        self.assertEqual(vain_way(program, 7), tuple(range(13)))
        self.assertIsNone(vain_way(program, 3))
        self.assertEqual(surely(program), (0, 1, 2, 3))

    def test_against_a_plain_search(self):
        ways = {True: 0, False: 0}
        for block in some_blocks(200, 61) + loopy_blocks(200, 62):
            program = Program(block)
            vain = []
            for place in plain_note_places(block):
                way = vain_way(program, place)
                self.assertEqual(way, plain_vain_way(block, place), (block, place))
                ways[way is None] += 1
                if way is not None:
                    vain.append(place)
                    self.assert_vain(program, place, way)
            self.assertEqual(surely(program), tuple(at for at in plain_note_places(block) if at not in vain))
        self.assertGreater(min(ways.values()), 50)

    def assert_vain(self, program, place, way):
        self.assertTrue(is_way(program, way) and way[0] == 0 and nexts(program, way[-1]) == ())
        made = [at for at in way[:-1] if row_at(program, at)[0] == "note"]
        worked = told(program, way, TERMS).worked()
        self.assertTrue([number for number, at in enumerate(made) if at == place and number not in worked])


class Surely(unittest.TestCase):
    def test_rows(self):
        self.assertEqual(surely(LOOP), (2,))
        self.assertEqual(surely(LAST), ())
        self.assertEqual(surely(program_of()), ())
        self.assertEqual(surely(program_of(("ask", "x"))), ())
        self.assertEqual(surely(program_of(note("x"), note("y"), note("z", "x"), ("ask", "z"))), (0, 2))
        self.assertEqual(surely(program_of(note("x"), ("either", (("ask", "x"),), ()))), ())
        self.assertEqual(surely(program_of(note("x"), ("either", (("ask", "x"),), (("print", "x"),)))), (0,))


class Marked(unittest.TestCase):
    def test_an_ask_stands_behind(self):
        self.assertEqual(
            marked(LOOP, (2,)).block,
            (("give", "t", 0), ("again", (("note", "t", "add", ("t",)), ("ask", "t"))), ("print", "t")))

    def test_no_mark_changes_nothing(self):
        self.assertEqual(marked(LOOP, ()), LOOP)
        self.assertEqual(marked(program_of(), ()), program_of())

    def test_blocks_within(self):
        block = (("either", (note("x"), ("again", (note("y"), ("give", "x", 0), note("x")))), (note("z"),)), note("x"))
        self.assertEqual(marked(Program(block), (1, 3, 5, 6, 7)).block, (
            ("either", (note("x"), ("ask", "x"), ("again", (note("y"), ("ask", "y"), ("give", "x", 0), note("x"),
                                                            ("ask", "x")))), (note("z"), ("ask", "z"))),
            note("x"), ("ask", "x")))
        self.assertEqual(marked(Program(block), (3, 7)).block, (
            ("either", (note("x"), ("again", (note("y"), ("ask", "y"), ("give", "x", 0), note("x")))), (note("z"),)),
            note("x"), ("ask", "x")))

    def test_the_program_is_not_changed(self):
        program = program_of(note("x"))
        marked(program, (0,))
        self.assertEqual((program.block, nexts(program, 0)), ((note("x"),), (1,)))

    def test_more_rows_than_a_program_may_have(self):
        inner = (note("x"),) * 9
        program = program_of(*inner, ("either", inner, inner))
        wide = marked(program, tuple(place for place in range(28) if place != 9))
        self.assertEqual(len(wide.block), 19)
        self.assertEqual(names(wide), ("x",))
        self.assertEqual(nexts(wide, 18), (19, 37))
        self.assertEqual((row_at(wide, 54), nexts(wide, 54), nexts(wide, 55)), (("ask", "x"), (55,), ()))
        self.assertTrue(is_way(wide, (36, 55)))
        self.assertIsNone(ring(wide))
        self.assertEqual((greatest(wide), fullest(wide)), (1, (0, 1)))
        self.assertTrue(is_closed(wide, tuple(shapes(wide))))
        self.assertEqual(holders(wide, (0, 1), ()), ())
        self.assertEqual(len(surely(wide)), 27)
        run = told(wide, tuple(range(20)), TERMS)
        self.assertEqual(run.worked(), tuple(range(9)))
        self.assertEqual(wide, marked(program, tuple(place for place in range(28) if place != 9)))
        self.assertNotEqual(wide, program)
        self.assertTrue(is_quiet(wide))
        self.assertEqual(len(marked(wide, (0, 2)).block), 21)

    def test_no_marks(self):
        for places in [(0,), (1,), (3,), (4,), (2, 2), (1, 2), [2], 2, ("2",), (True,), (2, True), (-2,)] + anything():
            if places != ():
                with self.subTest(places=type(places)), self.assertRaises(NoMarks):
                    marked(LOOP, places)
        program = program_of(note("x"), note("y"))
        for places in ((1, 0), (0, 0), (0, 1, 1), [0, 1], (False,), (0, True), (False, True), (0, 1, 2), (0, None)):
            with self.subTest(places=places), self.assertRaises(NoMarks):
                marked(program, places)
        self.assertEqual(len(marked(program, (0, 1)).block), 4)

    def test_against_plain_marks(self):
        chance = random.Random(63)
        for block in some_blocks(150, 64) + loopy_blocks(50, 65):
            places = tuple(place for place in plain_note_places(block) if chance.random() < 0.5)
            wide = marked(Program(block), places)
            expected = plain_marked(block, places)
            self.assertEqual(wide.block, expected)
            leads = reference_nexts(expected)
            self.assertEqual([nexts(wide, place) for place in range(len(leads))], leads)


class Bounds(unittest.TestCase):
    def test_programs(self):
        self.assertEqual(bounds(LOOP), ((2,),))
        self.assertEqual(bounds(LAST), ((),))
        self.assertEqual(bounds(program_of()), ((),))
        self.assertEqual(bounds(looped(note("x", "y"), note("y", "x"))), ((1,), (2,)))
        self.assertEqual(bounds(looped(note("x", "x"), note("y", "y"))), ((1, 2),))

    def test_ascending_not_by_length(self):
        program = looped(("either", (note("x", "y"), ("copy", "y", "x")), (note("x", "y"), ("copy", "y", "x"))),
                         note("z", "z", "x"))
        self.assertEqual(bounds(program), plain_bounds(program.block))
        program = looped(("either", (note("x", "x"),), ()), ("either", (note("x", "x"),), (("copy", "x", "y"),)),
                         note("y", "x"))
        self.assertEqual(bounds(program), plain_bounds(program.block))

    def test_ten_and_eleven_note_rows(self):
        ten = tuple(note("a", "b") for _ in range(9)) + (note("b", "a"),)
        self.assertEqual(bounds(looped(*ten)), tuple((place,) for place in range(1, 11)))
        for rows in ((note("a"),) * 11, tuple(note(name, name) for name in "abcdefga") + (note("a"),) * 3):
            with self.assertRaises(TooMany) as caught:
                bounds(looped(*rows))
            self.assertEqual(caught.exception.most, 10)

    def test_six_and_seven_names(self):
        self.assertEqual(bounds(looped(*(note(name, name) for name in "abcdef"))), ((1, 2, 3, 4, 5, 6),))
        with self.assertRaises(TooMany) as caught:
            bounds(looped(*(note(name, name) for name in "abcdefg")))
        self.assertEqual(caught.exception.most, 6)

    def test_against_one_lot_after_another(self):
        sizes = set()
        for block in some_blocks(100, 66) + loopy_blocks(200, 67):
            if len(plain_note_places(block)) <= 6:
                expected = plain_bounds(block)
                self.assertEqual(bounds(Program(block)), expected, block)
                sizes.add(len(expected))
        self.assertGreater(len(sizes), 3)

    def test_marked_so_there_is_no_ring(self):
        for block in loopy_blocks(60, 68):
            program = Program(block)
            if len(plain_note_places(block)) <= 10:
                for lot in bounds(program):
                    self.assertIsNone(ring(marked(program, lot)))
                    for place in lot:
                        fewer = tuple(each for each in lot if each != place)
                        self.assertTrue(has_plain_ring(plain_marked(block, fewer)))


class IsQuiet(unittest.TestCase):
    def test_programs(self):
        self.assertIs(is_quiet(LOOP), True)
        self.assertIs(is_quiet(LAST), True)
        self.assertIs(is_quiet(program_of()), True)
        self.assertIs(is_quiet(looped(note("x", "x"))), False)
        self.assertIs(is_quiet(program_of(("again", (note("x", "x"), note("y", "y"))), ("ask", "x"))), False)
        self.assertIs(is_quiet(program_of(("again", (note("x", "x"), note("y", "y"))), ("ask", "x"), ("ask", "y"))), True)

    def test_six_and_seven_names(self):
        self.assertIs(is_quiet(looped(*(note(name, name) for name in "abcdef"))), False)
        for rows in ([note(name, name) for name in "abcdefg"], [("ask", name) for name in "abcdefg"]):
            with self.assertRaises(TooMany) as caught:
                is_quiet(looped(*rows))
            self.assertEqual(caught.exception.most, 6)

    def test_against_plain_searches(self):
        flags = {True: 0, False: 0}
        for block in loopy_blocks(250, 69):
            sure = [place for place in plain_note_places(block) if plain_vain_way(block, place) is None]
            expected = not has_plain_ring(plain_marked(block, sure))
            self.assertIs(is_quiet(Program(block)), expected)
            flags[expected] += 1
        self.assertGreater(min(flags.values()), 50)

    def test_a_program_with_a_ring_may_be_quiet(self):
        with self.assertRaises(Endless):
            greatest(LOOP)
        self.assertEqual(greatest(marked(LOOP, surely(LOOP))), 1)


def twins(program, places, chance, most):
    """A run to the end and one of the program marked, led by the same choices, with the places of all notes made.

    None if the end is not reached in so many steps.
    """
    plain, other = Run(program, TERMS), Run(marked(program, places), TERMS)
    made = []
    while nexts(program, plain.place()):
        if len(plain.way()) > most:
            return None
        place, many = plain.place(), len(nexts(program, plain.place()))
        # The last choice, which leaves a loop, is taken more often than the others.
        which = chance.choice((0, many - 1, many - 1))
        if row_at(program, place)[0] == "note":
            made.append(place)
        for run in (plain, other):
            run.step(which)
        if place in places:
            other.step(0)
    return plain, other, made


class SecondFact(unittest.TestCase):
    def worked_rows(self, run, made):
        return sorted(made[number] for number in run.worked())

    def test_marks_of_surely_change_nothing_that_is_said(self):
        chance = random.Random(71)
        many = 0
        for block in (some_blocks(150, 72) + loopy_blocks(150, 73)) * 4:
            program = Program(block)
            places = surely(program)
            found = twins(program, places, chance, 60)
            if found is not None and places:
                plain, other, made = found
                self.assertEqual(plain.said(), other.said(), block)
                self.assertEqual(self.worked_rows(plain, made), self.worked_rows(other, made), block)
                self.assertLessEqual(len(other.waiting()), len(plain.waiting()))
                many += len(made)
        self.assertGreater(many, 500)

    def test_with_other_marks_more_may_be_worked_out(self):
        chance = random.Random(74)
        more = 0
        for block in some_blocks(100, 75):
            program = Program(block)
            found = twins(program, tuple(plain_note_places(block)), chance, 60)
            if found is not None:
                plain, other, made = found
                self.assertEqual(plain.said(), other.said(), block)
                self.assertEqual(other.waiting(), ())
                self.assertEqual(len(other.worked()), len(made))
                more += len(other.worked()) > len(plain.worked())
        self.assertGreater(more, 10)


if __name__ == "__main__":
    unittest.main()
