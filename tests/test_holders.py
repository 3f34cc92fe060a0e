"""Promises 0.2 to 0.5 and 3.1: holders, and what it tells of runs."""

import random
import unittest

from odd import anything
from reference import loopy_blocks, reference_nexts, some_blocks
from reference_piles import TERMS, lots_of, plain_lot
from putoffpiles.errors import NoLot, NoWay
from putoffpiles.holders import holders
from putoffpiles.programs import Program, names, nexts, row_at
from putoffpiles.runs import Run

LOOP = Program((("give", "t", 0), ("again", (("note", "t", "add", ("t",)),)), ("print", "t")))


def behind(row, lot, *others):
    """What holders tells behind one row, others being rows that lend their names."""
    return holders(Program((row,) + others), (0, 1), lot)


def beneath(run, held):
    """The numbers of the notes at and beneath a thing that is held."""
    found = []
    ahead = [held]
    while ahead:
        kind, what = ahead.pop()
        if kind == "note" and what not in found:
            found.append(what)
            ahead.extend(run.note(what)[1])
    return found


def holding(run, program, number):
    """The names that hold a note, by the run alone."""
    return tuple(name for name in names(program) if number in beneath(run, run.held(name)))


def some_run(program, chance, most):
    """The runs behind each step of one by chance."""
    runs = [Run(program, TERMS)]
    while len(runs) < most and nexts(program, runs[-1].place()):
        runs.append(runs[-1].copy())
        runs[-1].step(chance.randrange(len(nexts(program, runs[-1].place()))))
    return runs


class Rows(unittest.TestCase):
    def test_note(self):
        row = ("note", "x", "f", ("y", "z"))
        self.assertEqual(behind(row, ("y",)), ("x", "y"))
        self.assertEqual(behind(row, ("z",)), ("x", "z"))
        self.assertEqual(behind(row, ("x",)), ())
        self.assertEqual(behind(row, ("x", "y", "z")), ("x", "y", "z"))
        self.assertEqual(behind(row, ()), ())

    def test_note_with_its_own_name_as_a_part_and_without_parts(self):
        self.assertEqual(behind(("note", "x", "f", ("x",)), ("x",)), ("x",))
        self.assertEqual(behind(("note", "x", "f", ()), ("x",)), ())

    def test_an_op_is_no_part(self):
        self.assertEqual(behind(("note", "x", "y", ()), ("y",), ("ask", "y")), ("y",))

    def test_copy(self):
        self.assertEqual(behind(("copy", "x", "y"), ("y",)), ("x", "y"))
        self.assertEqual(behind(("copy", "x", "y"), ("x",)), ())
        self.assertEqual(behind(("copy", "x", "y"), ("x", "y")), ("x", "y"))
        self.assertEqual(behind(("copy", "x", "x"), ("x",)), ("x",))

    def test_give(self):
        self.assertEqual(behind(("give", "x", 1), ("x",)), ())
        self.assertEqual(behind(("give", "x", 1), ("y",), ("ask", "y")), ("y",))

    def test_ask_and_print(self):
        for word in ("ask", "print"):
            self.assertIsNone(behind((word, "x"), ("x",)))
            self.assertIsNone(behind((word, "x"), ("x", "y"), ("ask", "y")))
            self.assertEqual(behind((word, "x"), ("y",), ("ask", "y")), ("y",))
            self.assertEqual(behind((word, "x"), ()), ())

    def test_either_and_again_change_nothing(self):
        program = Program((("note", "x", "f", ()), ("either", (), ()), ("again", ()), ("ask", "x")))
        self.assertEqual(holders(program, (1, 2, 2, 2, 3), ("x",)), ("x",))

    def test_the_lot_is_ascending(self):
        self.assertEqual(behind(("copy", "b", "z"), ("a", "c", "z"), ("copy", "a", "c")), ("a", "b", "c", "z"))


class Ways(unittest.TestCase):
    def test_a_way_of_one_place_does_nothing(self):
        for place in range(5):
            self.assertEqual(holders(LOOP, (place,), ("t",)), ("t",))
            self.assertEqual(holders(LOOP, (place,), ()), ())
        self.assertEqual(holders(Program(()), (0,), ()), ())

    def test_the_row_of_the_last_place_is_not_done(self):
        self.assertEqual(holders(LOOP, (1, 3), ("t",)), ("t",))
        self.assertIsNone(holders(LOOP, (1, 3, 4), ("t",)))

    def test_once_worked_out_nothing_brings_it_back(self):
        program = Program((("ask", "x"), ("give", "x", 0), ("ask", "x")))
        self.assertIsNone(holders(program, (0, 1, 2, 3), ("x",)))

    def test_nobody_holds_it_any_more(self):
        program = Program((("give", "x", 0), ("ask", "x"), ("copy", "y", "x")))
        self.assertEqual(holders(program, (0, 1, 2, 3), ("x",)), ())

    def test_long_ways(self):
        way = (1, 2) * 5000 + (1,)
        self.assertEqual(holders(LOOP, way, ("t",)), ("t",))


class WrongInputs(unittest.TestCase):
    def test_no_way(self):
        for thing in [(0, 2), (1, 0), (5,), [0, 1], (0, True), (False, 1), ("0",)] + anything():
            with self.subTest(thing=type(thing)), self.assertRaises(NoWay):
                holders(LOOP, thing, ("t",))

    def test_no_lot(self):
        for thing in [("u",), ("t", "t"), ["t"], "t", ("add",), ("t", "u"), ((),), (0,)] + anything():
            if thing != ():
                with self.subTest(thing=type(thing)), self.assertRaises(NoLot):
                    holders(LOOP, (0, 1), thing)

    def test_lots_that_are_not_ascending(self):
        program = Program((("copy", "a", "b"),))
        self.assertEqual(holders(program, (0,), ("a", "b")), ("a", "b"))
        for lot in (("b", "a"), ("a", "a"), ("a", "b", "b"), ("a", "b", "c"), ["a", "b"], ("a", True), ("a", None)):
            with self.subTest(lot=lot), self.assertRaises(NoLot):
                holders(program, (0,), lot)

    def test_the_way_is_judged_ahead_of_the_lot(self):
        with self.assertRaises(NoWay):
            holders(LOOP, (0, 2), ("u",))


class Drawn(unittest.TestCase):
    def test_the_first_fact(self):
        chance = random.Random(31)
        told = {"none": 0, "nobody": 0, "held": 0}
        for block in some_blocks(60, 32) + loopy_blocks(60, 33):
            program = Program(block)
            runs = some_run(program, chance, 14)
            way = runs[-1].way()
            for at, run in enumerate(runs):
                for number in run.waiting():
                    lot = holding(run, program, number)
                    for to in range(at, len(runs)):
                        told_lot = holders(program, way[at : to + 1], lot)
                        if number in runs[to].worked():
                            self.assertIsNone(told_lot)
                            told["none"] += 1
                        elif number in runs[to].waiting():
                            self.assertEqual(told_lot, holding(runs[to], program, number))
                            told["held"] += 1
                        else:
                            self.assertEqual(told_lot, ())
                            told["nobody"] += 1
        self.assertGreater(min(told.values()), 100)

    def test_against_plain_lots(self):
        chance = random.Random(34)
        for block in some_blocks(150, 35):
            program = Program(block)
            leads = reference_nexts(block)
            way = [chance.randrange(len(leads))]
            while len(way) < 12 and leads[way[-1]]:
                way.append(chance.choice(leads[way[-1]]))
            for lot in lots_of(names(program)):
                expected = lot
                for place in way[:-1]:
                    expected = None if expected is None else plain_lot(row_at(program, place), expected)
                expected = None if expected is None else tuple(sorted(expected))
                self.assertEqual(holders(program, tuple(way), tuple(sorted(lot))), expected)


if __name__ == "__main__":
    unittest.main()
