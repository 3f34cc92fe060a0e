"""Promises 0.2 to 0.5 and 4.2: how many notes wait, the way to as many, and all shapes."""

import random
import unittest

from odd import anything
from reference import loopy_blocks, reference_nexts, some_blocks
from reference_piles import TERMS, plain_shapes
from putoffpiles.errors import Endless, TooMany
from putoffpiles.piles import fullest, greatest, is_closed, ring, shapes
from putoffpiles.programs import Program, names, nexts
from putoffpiles.runs import Run, shape, told

ALL = (greatest, fullest, shapes)
LOOP = Program((("give", "t", 0), ("again", (("note", "t", "add", ("t",)),)), ("print", "t")))
LAST = Program((("give", "a", 1), ("again", (("note", "c", "f", ("a",)),)), ("print", "c")))


def looped(*rows):
    return Program((("again", rows),))


def either_of(row, other=None):
    return ("either", (row,), () if other is None else (other,))


def note(name, op="f", *ys):
    return ("note", name, op, ys)


def many_shapes(gives):
    """A program with 2991 shapes and one more for each give ahead."""
    rows = (either_of(note("c"), note("c", "g")), either_of(("copy", "a", "c")), either_of(note("d"), ("give", "d", 0)),
            either_of(note("d"), ("give", "d", 0)), either_of(("copy", "e", "a")), either_of(("copy", "b", "a")),
            either_of(note("a"), note("a", "g")))
    return Program((("give", "a", 0),) * gives + (("again", rows),))


class Numbers(unittest.TestCase):
    def test_programs_of_no_note(self):
        for block, many in (((), 1), ((("give", "x", 1),), 2), ((("again", ()),), 2), ((("either", (), ()),), 2)):
            program = Program(block)
            self.assertEqual((greatest(program), fullest(program)), (0, (0,)))
            self.assertEqual(shapes(program), [(place, (-1,) * len(names(program)), ()) for place in range(many)])

    def test_it_counts_between_all_steps(self):
        program = Program((note("x"), note("y", "f", "x"), ("give", "x", 0), ("give", "y", 0)))
        self.assertEqual((greatest(program), fullest(program)), (2, (0, 1, 2)))
        self.assertEqual(greatest(Program((note("x"),))), 1)
        self.assertEqual(fullest(Program((note("x"),))), (0, 1))

    def test_a_note_that_is_shared_counts_once(self):
        program = Program((note("x"), ("copy", "y", "x"), note("z", "f", "x", "y", "x")))
        self.assertEqual(greatest(program), 2)
        self.assertEqual(shapes(program)[-1], (3, (0, 0, 1), (("f", ()), ("f", (0, 0, 0)))))

    def test_the_last_row_counts_too(self):
        self.assertEqual(fullest(Program((("give", "x", 1), note("x")))), (0, 1, 2))

    def test_fullest_is_the_shortest(self):
        program = Program((("either", (("ask", "x"), note("x")), (note("x"),)),))
        self.assertEqual(fullest(program), (0, 3, 4))

    def test_fullest_is_the_least_of_the_shortest(self):
        program = Program((("either", (note("x", "g"),), (note("x", "f"),)),))
        self.assertEqual(fullest(program), (0, 1, 3))
        # The first block is empty: what is behind the either is a greater place than its second block.
        program = Program((("either", (), (note("y"),)), note("x")))
        self.assertEqual(fullest(program), (0, 1, 2, 3))
        # And a lesser one where a loop follows.
        program = looped(("either", (), (note("x"),)))
        self.assertEqual(fullest(program), (0, 1, 2, 0))

    def test_the_least_way_leads_through_the_greater_number(self):
        # Of the again next places are (1, 3); of the either within (2, 0), though 0 is less.
        program = looped(("either", (note("x"),), ()))
        self.assertEqual(nexts(program, 1), (2, 0))
        self.assertEqual(fullest(program), (0, 1, 2, 0))
        program = looped(("either", (("give", "y", 0),), ()), note("x"), ("ask", "x"))
        self.assertEqual(fullest(program), (0, 1, 3, 4))

    def test_a_loop_within_a_loop(self):
        program = looped(note("x"), ("again", (note("y", "f", "x"), ("copy", "z", "y"))), ("ask", "z"))
        self.assertIsNone(ring(program))
        expected = plain_shapes(program.block, 500)
        self.assertEqual(shapes(program), sorted(expected))
        self.assertEqual(greatest(program), max(len(each[2]) for each in expected))

    def test_lists_are_new(self):
        first = shapes(LAST)
        first.clear()
        self.assertEqual(len(shapes(LAST)), 8)


class Errors(unittest.TestCase):
    def assert_many(self, function, program, most):
        with self.assertRaises(TooMany) as caught:
            function(program)
        self.assertEqual(caught.exception.most, most)

    def test_endless(self):
        for function in ALL:
            for program in (LOOP, looped(note("x", "f", "x")), looped(note("x", "f", "y"), ("copy", "y", "x"))):
                with self.assertRaises(Endless):
                    function(program)

    def test_six_and_seven_names(self):
        six = Program(tuple(note(name) for name in "abcdef"))
        self.assertEqual((greatest(six), fullest(six), len(shapes(six))), (6, (0, 1, 2, 3, 4, 5, 6), 7))
        for function in ALL:
            self.assert_many(function, Program(tuple(note(name) for name in "abcdefg")), 6)

    def test_three_thousand_shapes_and_one_more(self):
        plain = plain_shapes(many_shapes(0).block, 2991)
        self.assertEqual(shapes(many_shapes(0)), sorted(plain))
        program = many_shapes(9)
        self.assertEqual(len(shapes(program)), 3000)
        way = next(way for each, way in plain.items() if len(each[2]) == 5)
        self.assertEqual((greatest(program), fullest(program)), (5, tuple(range(9)) + tuple(at + 9 for at in way)))
        for function in ALL:
            self.assert_many(function, many_shapes(10), 3000)

    def test_their_order(self):
        seven = [note(name, "f", "a") for name in "abcdefg"]
        grown = many_shapes(10).block[-1][1]
        for function in ALL:
            self.assert_many(function, looped(*seven), 6)
            with self.assertRaises(Endless):
                function(looped(*grown, note("f", "f", "f")))


class Drawn(unittest.TestCase):
    def test_against_all_runs(self):
        many = 0
        for block in some_blocks(150, 51) + loopy_blocks(250, 52):
            program = Program(block)
            if ring(program) is not None:
                for function in ALL:
                    with self.assertRaises(Endless):
                        function(program)
                continue
            expected = plain_shapes(block, 250)
            if expected is None:
                continue
            many += 1
            most = max(len(each[2]) for each in expected)
            self.assertEqual(shapes(program), sorted(expected), block)
            self.assertEqual(greatest(program), most, block)
            self.assertEqual(fullest(program), next(way for each, way in expected.items() if len(each[2]) == most), block)
        self.assertGreater(many, 200)

    def test_no_run_has_more_and_just_so_many_behind_fullest(self):
        chance = random.Random(53)
        for block in loopy_blocks(80, 54):
            program = Program(block)
            if ring(program) is not None:
                continue
            most, all_shapes = greatest(program), shapes(program)
            self.assertEqual(len(told(program, fullest(program), TERMS).waiting()), most)
            run = Run(program, TERMS)
            for _ in range(60):
                self.assertLessEqual(len(run.waiting()), most)
                self.assertIn(shape(run), all_shapes)
                after = nexts(program, run.place())
                if not after:
                    break
                run.step(chance.randrange(len(after)))

    def test_shapes_are_closed_but_not_without_any_one(self):
        for block in some_blocks(30, 55) + loopy_blocks(60, 56):
            program = Program(block)
            if ring(program) is not None:
                continue
            some = tuple(shapes(program))
            self.assertIs(is_closed(program, some), True)
            self.assertIs(is_closed(program, some[::-1]), True)
            if len(some) <= 60:
                for at in range(len(some)):
                    self.assertIs(is_closed(program, some[:at] + some[at + 1 :]), False)


class IsClosed(unittest.TestCase):
    X = ("note", "x", "f", ())

    def closed_with(self, *more):
        """Whether all shapes of a program with names x and y, and more of them at its end, are closed."""
        program = Program((("copy", "x", "y"),))
        return is_closed(program, tuple(shapes(program)) + tuple((1,) + each for each in more))

    def test_of_the_program_without_rows(self):
        self.assertIs(is_closed(Program(()), ((0, (), ()),)), True)
        for thing in ((), ((0, (), ()), (0, (), ())), ((1, (), ()),), [(0, (), ())], ([0, (), ()],), ((0, [], ()),),
                      ((0, (), []),), ((False, (), ()),), ((0, (-1,), ()),), ((0, (), (("f", ()),)),), ((0, ()),)):
            self.assertIs(is_closed(Program(()), thing), False)

    def test_more_shapes_than_come(self):
        self.assertTrue(self.closed_with())
        self.assertTrue(self.closed_with(((0, 0), (("f", ()),))))
        self.assertTrue(self.closed_with(((0, 1), (("f", ()), ("other", (0, -1, 0)))), ((-1, 0), (("g", (-1,)),))))
        self.assertTrue(self.closed_with(((0, 2), (("f", (1,)), ("g", ()), ("h", (0, 1))))))

    def test_what_comes_of_them_must_be_there_too(self):
        program = Program((("copy", "x", "y"),))
        some = tuple(shapes(program)) + ((0, (-1, 0), (("f", ()),)),)
        self.assertFalse(is_closed(program, some))
        self.assertTrue(is_closed(program, some + ((1, (0, 0), (("f", ()),)),)))
        loop = looped(("ask", "x"))
        some = tuple(shapes(loop))
        more = tuple((place, (0,), (("f", ()),)) for place in range(3))
        self.assertTrue(is_closed(loop, some + more))
        self.assertTrue(is_closed(loop, some + more[2:]))
        self.assertFalse(is_closed(loop, some + more[:2]))
        self.assertFalse(is_closed(loop, some + more[::2]))
        # What is asked comes back as a shape that comes anyhow.
        self.assertTrue(is_closed(loop, some + more[1:]))

    def test_that_of_the_beginning_must_be_there(self):
        program = looped(("ask", "x"))
        self.assertFalse(is_closed(program, ()))
        self.assertFalse(is_closed(program, ((2, (-1,), ()),)))
        self.assertFalse(is_closed(Program((("ask", "x"),)), ((1, (-1,), ()),)))

    def test_each_but_once(self):
        some = tuple(shapes(LAST))
        self.assertTrue(is_closed(LAST, some))
        self.assertFalse(is_closed(LAST, some + some[:1]))
        self.assertFalse(is_closed(LAST, some + some))
        self.assertFalse(is_closed(LAST, list(some)))

    def test_numbers_as_they_are_met(self):
        for heads, notes in (
            ((1, 0), (("f", ()), ("g", ()))), ((0, 2), (("f", ()), ("g", ()), ("h", (1,)))), ((0, -1), ()),
            ((0, 1), (("f", ()),)), ((-1, -1), (("f", ()),)), ((0, 1), (("f", ()), ("g", ()), ("h", ()))),
            ((0, 2), (("f", ()), ("g", ()), ("h", ()))), ((1, -1), (("f", ()), ("g", (0,)))),
            ((0, -1), (("f", (2, 1)), ("g", ()), ("h", ()))), ((0, 1), (("f", (2,)), ("g", ()), ("h", ()))),
            ((-2, -1), ()), ((0, -1), (("f", (-2,)),)), ((0, -1), (("f", (1,)),)),
        ):
            self.assertIs(self.closed_with((heads, notes)), False, (heads, notes))

    def test_no_note_beneath_itself(self):
        for heads, notes in (
            ((0, -1), (("f", (0,)),)), ((0, -1), (("f", (1,)), ("g", (0,)))), ((0, 0), (("f", (-1, 1)), ("g", (1,)))),
            ((0, 2), (("f", (1,)), ("g", ()), ("h", (2,)))), ((0, -1), (("f", (1,)), ("g", (2,)), ("h", (-1, 1)))),
        ):
            self.assertIs(self.closed_with((heads, notes)), False, (heads, notes))

    def test_a_note_met_on_two_ways_is_not_beneath_itself(self):
        notes = (("f", (1, 2)), ("g", (2,)), ("h", ()))
        for heads in ((0, -1), (0, 0), (0, 1), (0, 2), (-1, 0)):
            self.assertTrue(self.closed_with((heads, notes)))
        self.assertFalse(self.closed_with(((1, 0), notes)))

    def test_forms(self):
        good = ((0, -1), (("f", ()),))
        self.assertTrue(self.closed_with(good))
        for heads, notes in (
            ((0,), good[1]), ((0, -1, -1), good[1]), ([0, -1], good[1]), ((False, -1), good[1]), ("0", good[1]),
            (good[0], [("f", ())]), (good[0], (["f", ()],)), (good[0], (("f", []),)), (good[0], (("f",),)),
            (good[0], (("f", (), ()),)), (good[0], (("F", ()),)), (good[0], (("", ()),)), (good[0], (("ninechars", ()),)),
            (good[0], ((b"f", ()),)), (good[0], (("f", (-1, -1, -1, -1)),)), (good[0], (("f", (None,)),)),
            (good[0], (("f", ("0",)),)), (good[0], "f"), (good[0], None), (None, good[1]),
        ):
            self.assertIs(self.closed_with((heads, notes)), False, (heads, notes))
        self.assertTrue(self.closed_with((good[0], (("f", (-1, -1, -1)),))))

    def test_places(self):
        program = Program((("copy", "x", "y"),))
        some = tuple(shapes(program))
        for place in [2, -1, True, False, "1", None]:
            self.assertIs(is_closed(program, some + ((place, (0, -1), (("f", ()),)),)), False)

    def test_flags_are_no_numbers_though_they_equal_them(self):
        for shape_of in ((False, (-1,), ()), (True, (-1,), ()), (1, (False,), (("f", ()),)), (0, (-True,), ())):
            self.assertIs(is_closed(Program((("ask", "x"),)), (shape_of, (0, (-1,), ()), (1, (-1,), ()))), False)

    def test_objects_of_all_kinds(self):
        begin = (0, (-1, -1), ())
        for thing in anything():
            for some in (thing, (thing,), (begin, thing), (begin, (thing, (-1, -1), ())), (begin, (1, thing, ())),
                         (begin, (1, (-1, -1), thing)), (begin, (1, (0, -1), (thing,))), (begin, (1, (thing, -1), ())),
                         (begin, (1, (0, -1), ((thing, ()),)))):
                self.assertIs(is_closed(LAST, some), False)
            for deep in ((begin, (1, (0, -1), (("f", thing),))), (begin, (1, (0, -1), (("f", (thing,)),)))):
                self.assertIs(is_closed(LAST, deep), False)

    def test_many_notes_one_beneath_the_other(self):
        program = Program((("ask", "x"),))
        chain = tuple(("f", (at + 1,)) for at in range(2999)) + (("f", ()),)
        some = tuple(shapes(program))
        self.assertIs(is_closed(program, some + ((0, (0,), chain),)), True)
        self.assertIs(is_closed(program, some + ((0, (0,), chain[:-1] + (("f", (0,)),)),)), False)
        self.assertIs(is_closed(program, some[:1] + ((0, (0,), chain),)), False)

    def test_more_than_six_names_are_no_matter(self):
        program = Program((("note", "a", "f", tuple("bcd")), ("note", "e", "f", tuple("fgh"))))
        held = (-1,) * 8
        some = [(0, held, ()), (1, (0,) + held[1:], (("f", (-1, -1, -1)),)),
                (2, (0, -1, -1, -1, 1, -1, -1, -1), (("f", (-1, -1, -1)), ("f", (-1, -1, -1))))]
        self.assertIs(is_closed(program, tuple(some)), True)
        self.assertIs(is_closed(program, tuple(some[:2])), False)

    def test_closed_even_where_there_is_a_ring_it_never_is(self):
        run = Run(LOOP, TERMS)
        found = [shape(run)]
        for which in (0, 0, 0, 0, 0, 0):
            run.step(which)
            found.append(shape(run))
        self.assertIs(is_closed(LOOP, tuple(found)), False)

    def test_drawn_shapes_of_other_programs_are_closed_just_if_plainly(self):
        chance = random.Random(57)
        told_closed = {True: 0, False: 0}
        for block in loopy_blocks(60, 58):
            program = Program(block)
            if ring(program) is not None or len(shapes(program)) > 40:
                continue
            some = shapes(program)
            leads = reference_nexts(block)
            extra = [(len(leads) - 1, each[1], each[2]) for each in some]
            more = tuple(dict.fromkeys(some + chance.sample(extra, min(3, len(extra)))))
            told_closed[is_closed(program, more)] += 1
            self.assertTrue(is_closed(program, more))
            told_closed[is_closed(program, more[1:])] += 1
        self.assertGreater(told_closed[True], 5)


if __name__ == "__main__":
    unittest.main()
