"""Promises 0.2 to 0.5 and 4.1: rings, and the ways that go them."""

import unittest

from odd import anything
from reference import loopy_blocks, reference_nexts, some_blocks, stands_of
from reference_piles import TERMS, has_plain_ring, plain_names
from putoffpiles.errors import NoNumber, NoRing, TooMany
from putoffpiles.holders import holders
from putoffpiles.piles import is_ring, ring, round_way
from putoffpiles.programs import Program, is_way, nexts, row_at
from putoffpiles.runs import told

LOOP = Program((("give", "t", 0), ("again", (("note", "t", "add", ("t",)),)), ("print", "t")))
RING = (2, (1, 2, 1), ("t",))
# The note of x is held by y alone behind its row: x is not in the lot, as y takes on both.
APART = Program((("again", (("note", "y", "f", ("x", "y")), ("note", "x", "g", ()))),))


def looped(*rows):
    return Program((("again", rows),))


def plainly_ring(program, thing):
    """Whether a triple of the right kinds is a ring, word by word."""
    place, way, lot = thing
    row = row_at(program, place)
    begin = nexts(program, place)[0]
    return (row[0] == "note" and is_way(program, way) and len(way) > 1 and way[0] == begin and way[-1] == begin
            and way[-2] == place and lot != () and holders(program, way, (row[1],)) == lot
            and holders(program, way, lot) == lot)


class Rings(unittest.TestCase):
    def test_programs_without_one(self):
        for program in (
            Program(()), Program((("again", ()),)), Program((("print", "x"),)), Program((("note", "x", "f", ("x",)),)),
            looped(("give", "x", 0)), looped(("note", "x", "f", ())), looped(("note", "x", "f", ("x",)), ("ask", "x")),
            looped(("note", "x", "f", ("x",)), ("print", "x")), looped(("note", "x", "f", ("x",)), ("give", "x", 0)),
            looped(("note", "x", "f", ("y",)), ("note", "y", "f", ())), looped(("again", ()), ("either", (), ())),
            looped(("note", "x", "f", ("y",)), ("copy", "y", "x"), ("give", "x", 0), ("ask", "y")),
        ):
            self.assertIsNone(ring(program), program.block)

    def test_programs_with_one(self):
        for program in (
            LOOP, APART, looped(("note", "x", "f", ("x",))), looped(("note", "x", "f", ("y",)), ("copy", "y", "x")),
            looped(("note", "x", "f", ("x",)), ("either", (("ask", "x"),), ())),
            looped(("again", (("note", "x", "f", ("y",)), ("copy", "y", "x"))), ("ask", "x")),
            looped(("note", "x", "f", ("y",)), ("note", "y", "f", ("x",)), ("give", "x", 1)),
            looped(("note", "x", "f", ("y", "x", "y"))), looped(("note", "a", "f", ("b",)), ("copy", "c", "a"),
                                                                ("give", "a", 0), ("copy", "b", "c")),
        ):
            found = ring(program)
            self.assertTrue(is_ring(program, found), program.block)
            self.assertTrue(plainly_ring(program, found), program.block)

    def test_a_loop_within_a_loop(self):
        inner = looped(("give", "x", 0), ("again", (("note", "x", "f", ("x",)),)), ("ask", "x"))
        self.assertEqual(ring(inner), (3, (2, 3, 2), ("x",)))
        outer = looped(("again", (("note", "x", "f", ()),)), ("note", "y", "g", ("x", "y")))
        self.assertEqual(ring(outer)[2], ("y",))
        kept = looped(("again", (("note", "x", "f", ("x",)), ("ask", "x"))))
        self.assertIsNone(ring(kept))

    def test_two_ways_that_break_one_another(self):
        # Either side keeps what is noted, but needs the other one to hand it on, which asks it.
        program = looped(("either", (("note", "x", "f", ("y",)), ("ask", "y")), (("copy", "y", "x"), ("give", "x", 0))))
        self.assertIsNone(ring(program))

    def test_six_and_seven_names(self):
        six = looped(*(("note", name, "f", ("a",)) for name in "bcdef"))
        self.assertIsNone(ring(six))
        found = ring(looped(*(("note", name, "f", ("a",)) for name in "abcdef")))
        self.assertEqual(found[2][0], "a")
        for rows in ([("note", name, "f", ("a",)) for name in "bcdefg"], [("give", name, 0) for name in "abcdefgh"]):
            with self.assertRaises(TooMany) as caught:
                ring(looped(*rows))
            self.assertEqual(caught.exception.most, 6)

    def test_equal_programs_have_equal_rings(self):
        for block in loopy_blocks(20, 41):
            self.assertEqual(ring(Program(block)), ring(Program(block)))


class IsRing(unittest.TestCase):
    def test_rings_that_are_longer_or_begin_elsewhere(self):
        self.assertIs(is_ring(LOOP, RING), True)
        self.assertIs(is_ring(LOOP, (2, (1, 2, 1, 2, 1), ("t",))), True)
        self.assertIs(is_ring(LOOP, (2, (1, 2) * 2000 + (1,), ("t",))), True)

    def test_the_name_need_not_be_in_the_lot(self):
        self.assertTrue(is_ring(APART, (2, (0, 1, 2, 0), ("y",))))
        self.assertFalse(is_ring(APART, (2, (0, 1, 2, 0), ("x", "y"))))
        self.assertTrue(is_ring(APART, (1, (2, 0, 1, 2), ("y",))))

    def test_what_is_none(self):
        for thing in (
            (2, (1, 2, 1), ()), (2, (1, 2, 1), ("u",)), (2, (1, 2, 1), ["t"]), (2, (1, 2, 1), "t"),
            (2, (1, 2, 1), ("t", "t")), (2, (1,), ("t",)), (2, (1, 2), ("t",)), (2, (2, 1), ("t",)), (2, (), ("t",)),
            (2, [1, 2, 1], ("t",)), (2, (1, 2, 2, 1), ("t",)), (2, (0, 1, 2, 1), ("t",)), (2, (1, 3, 4), ("t",)),
            (1, (2, 1, 2), ("t",)), (0, (1, 2, 1), ("t",)), (3, (4,), ("t",)), (4, (), ("t",)), (4, (1, 2, 1), ("t",)),
            (-2, (1, 2, 1), ("t",)), (5, (1, 2, 1), ("t",)), (True, (1, 2, 1), ("t",)), (2, (True, 2, True), ("t",)),
            (2, (1, 2, True), ("t",)), ("2", (1, 2, 1), ("t",)), [2, (1, 2, 1), ("t",)], (2, (1, 2, 1)),
            (2, (1, 2, 1), ("t",), 0), (2,), (None, None, None), ("t", (1, 2, 1), (2,)),
        ):
            with self.subTest(thing=thing):
                self.assertIs(is_ring(LOOP, thing), False)

    def test_ways_along_which_it_is_asked_or_gone(self):
        for rows in ((("ask", "t"),), (("print", "t"),), (("give", "t", 0),), (("note", "t", "f", ()),)):
            program = looped(("note", "t", "add", ("t",)), *rows)
            self.assertIs(is_ring(program, (1, (2, 0, 1, 2), ("t",))), False)
        program = looped(("note", "t", "add", ("t",)), ("copy", "u", "t"))
        self.assertIs(is_ring(program, (1, (2, 0, 1, 2), ("t", "u"))), True)
        self.assertIs(is_ring(program, (1, (2, 0, 1, 2), ("t",))), False)

    def test_a_way_that_begins_elsewhere(self):
        self.assertIs(is_ring(LOOP, (2, (2, 1, 2, 1), ("t",))), False)
        self.assertIs(is_ring(LOOP, (2, (2, 1), ("t",))), False)

    def test_lots_that_holders_tells_but_that_are_none(self):
        gone = looped(("note", "t", "add", ("t",)), ("give", "t", 0))
        asked = looped(("note", "t", "add", ("t",)), ("ask", "t"))
        for lot in ((), None, ("t",)):
            self.assertIs(is_ring(gone, (1, (2, 0, 1, 2), lot)), False)
            self.assertIs(is_ring(asked, (1, (2, 0, 1, 2), lot)), False)

    def test_both_lots_must_come_back(self):
        # Behind one round the new note is held by y alone, though both hold the elder one.
        program = looped(("copy", "y", "x"), ("note", "x", "f", ()))
        self.assertIs(is_ring(program, (2, (0, 1, 2, 0), ("y",))), False)
        program = looped(("copy", "z", "y"), ("copy", "y", "x"), ("note", "x", "f", ("z",)))
        for lot in (("x",), ("y",), ("z",), ("x", "y"), ("x", "z"), ("y", "z"), ("x", "y", "z")):
            self.assertIs(is_ring(program, (3, (0, 1, 2, 3, 0), lot)), False)
        self.assertTrue(is_ring(program, ring(program)))

    def test_objects_of_all_kinds(self):
        for thing in anything():
            self.assertIs(is_ring(LOOP, thing), False)
            for triple in ((thing, (1, 2, 1), ("t",)), (2, thing, ("t",)), (2, (1, 2, 1), thing), (2, (1, 2, 1), (thing,)),
                           (2, (1, thing, 1), ("t",)), (thing, thing, thing)):
                self.assertIs(is_ring(LOOP, triple), False)
            self.assertIs(is_ring(Program(()), thing), False)

    def test_more_than_six_names_are_no_matter(self):
        program = looped(*(("note", name, "f", ("h",)) for name in "abcdefgh"))
        self.assertIs(is_ring(program, (8, (0, 1, 2, 3, 4, 5, 6, 7, 8, 0), ("a", "b", "c", "d", "e", "f", "g", "h"))), True)
        self.assertIs(is_ring(program, None), False)


class RoundWay(unittest.TestCase):
    def test_how_often_it_is_gone(self):
        self.assertEqual(round_way(LOOP, RING, 0), (0, 1, 2, 1))
        self.assertEqual(round_way(LOOP, RING, 1), (0, 1, 2, 1, 2, 1))
        self.assertEqual(round_way(LOOP, RING, 3), (0, 1, 2, 1, 2, 1, 2, 1, 2, 1))
        self.assertEqual(round_way(LOOP, RING, 1000), (0, 1) + (2, 1) * 1001)

    def test_a_longer_ring_is_gone_as_it_is(self):
        self.assertEqual(round_way(LOOP, (2, (1, 2, 1, 2, 1), ("t",)), 2), (0, 1) + (2, 1) * 5)

    def test_the_way_to_it_is_the_least_of_the_shortest(self):
        # Two ways of four places lead to the note row, and one of five that is less than either.
        rows = (("either", (("either", (("give", "x", 1), ("give", "x", 1)), (("give", "x", 1),)),), (("give", "x", 1),)),
                ("again", (("note", "x", "f", ("x",)),)))
        program = Program(rows)
        place = 7
        self.assertEqual(row_at(program, place)[0], "note")
        self.assertEqual(round_way(program, (place, (6, place, 6), ("x",)), 0), (0, 5, 6, 7, 6))
        twice = Program((("either", (("give", "x", 1),), (("give", "x", 2),)), ("again", (("note", "x", "f", ("x",)),))))
        self.assertEqual(round_way(twice, (4, (3, 4, 3), ("x",)), 0), (0, 1, 3, 4, 3))

    def test_an_empty_second_block_may_be_behind_the_first_one(self):
        program = looped(("either", (), (("note", "x", "f", ("x",)),)))
        self.assertEqual(round_way(program, (2, (0, 1, 2, 0), ("x",)), 1), (0, 1, 2, 0, 1, 2, 0))

    def test_no_ring(self):
        for thing in [(2, (1, 2, 1), ()), [2, (1, 2, 1), ("t",)], (2, (1, 2), ("t",))] + anything():
            for times in (0, 1, -1, 1001, None):
                with self.subTest(thing=type(thing)), self.assertRaises(NoRing):
                    round_way(LOOP, thing, times)

    def test_no_number(self):
        for times in [-1, 1001, True, False, "1", (1,), [1]] + [thing for thing in anything() if thing != 99]:
            with self.subTest(times=type(times)), self.assertRaises(NoNumber):
                round_way(LOOP, RING, times)

    def test_more_than_six_names_are_no_matter(self):
        program = looped(*(("note", name, "f", (name,)) for name in "abcdefgh"))
        self.assertEqual(round_way(program, (1, (2, 3, 4, 5, 6, 7, 8, 0, 1, 2), ("a",)), 0), (0, 1, 2))


class MainFact(unittest.TestCase):
    def test_there_is_a_ring_just_if_a_plain_search_finds_one(self):
        found = {True: 0, False: 0}
        for block in some_blocks(300, 42) + loopy_blocks(300, 43):
            one = ring(Program(block))
            self.assertEqual(one is not None, has_plain_ring(block), block)
            found[one is not None] += 1
        self.assertGreater(min(found.values()), 150)

    def test_rings_are_rings_and_lead_to_as_many_notes(self):
        for block in loopy_blocks(120, 44):
            program = Program(block)
            found = ring(program)
            if found is None:
                continue
            self.assertIs(is_ring(program, found), True, block)
            self.assertTrue(plainly_ring(program, found), block)
            for times in (0, 1, 2, 7):
                way = round_way(program, found, times)
                self.assertTrue(is_way(program, way))
                self.assertGreaterEqual(len(told(program, way, TERMS).waiting()), times + 1)

    def test_a_thousand_rounds(self):
        run = told(LOOP, round_way(LOOP, RING, 1000), {"add": lambda row: row[0] + 1})
        self.assertEqual(len(run.waiting()), 1001)

    def test_a_change_of_a_ring_is_one_just_if_it_is_plainly(self):
        for block in loopy_blocks(60, 45):
            program = Program(block)
            found = ring(program)
            if found is None:
                continue
            place, way, lot = found
            owners = plain_names(block)
            leads = reference_nexts(block)
            places = [stand.place for stand in stands_of(block)]
            for other in places:
                self.assertEqual(is_ring(program, (other, way, lot)), plainly_ring(program, (other, way, lot)))
            for name in owners:
                changed = tuple(sorted(set(lot) ^ {name}))
                self.assertEqual(is_ring(program, (place, way, changed)), plainly_ring(program, (place, way, changed)))
            for at in range(len(way)):
                for to in range(len(leads)):
                    changed = way[:at] + (to,) + way[at + 1 :]
                    self.assertEqual(is_ring(program, (place, changed, lot)), plainly_ring(program, (place, changed, lot)))
                shorter = way[:at] + way[at + 1 :]
                self.assertEqual(is_ring(program, (place, shorter, lot)), plainly_ring(program, (place, shorter, lot)))


if __name__ == "__main__":
    unittest.main()
