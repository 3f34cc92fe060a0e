"""All promises of parts 1 to 5, of programs with more rows, and deeper ones, than a caller's may have."""

import random
import unittest

from reference import ReferenceRun, reference_nexts, stands_of
from reference_books import plain_put_in, some_books
from reference_piles import (
    TERMS, NoPlaceLeft, ReferenceMemory, has_plain_ring, plain_bounds, plain_lot, plain_marked, plain_names,
    plain_note_places, plain_shapes, plain_vain_way)
from reference_texts import plain_read
from rows import ASK, again, call, either, note
from putoffpiles.books import Book, as_book, book_names, put_in
from putoffpiles.bookrings import book_ring
from putoffpiles.bookshapes import book_shapes
from putoffpiles.errors import BadProgram, Endless, NoMarks, NoPlace, NoRoom, TooMany
from putoffpiles.holders import holders
from putoffpiles.machine import Machine
from putoffpiles.marks import bounds, is_quiet, marked, surely, vain_way
from putoffpiles.piles import fullest, greatest, is_closed, is_ring, ring, round_way, shapes
from putoffpiles.programs import Program, is_way, names, nexts, row_at
from putoffpiles.reading import read_program
from putoffpiles.runs import Run, shape, told
from putoffpiles.texts import program_text


def is_wide(block):
    """Whether a block is no program's."""
    try:
        Program(block)
    except BadProgram:
        return True
    return False


def wide_books(many, seed, most_names=3):
    """The blocks of so many books without knots whose programs are wide, and not too wide for plain searches."""
    found = []
    while len(found) < many:
        seed += 1
        for blocks in some_books(40, seed, False, most_blocks=5, most_names=most_names, most_rows=5):
            # Each block that is called is called in a row, so that programs get long and deep.
            longer = tuple(block + (again(again(again(call(n + 1)))),) if n + 1 < len(blocks) else block
                           for n, block in enumerate(blocks))
            wide = plain_put_in(longer[0], longer)
            if len(longer) > 2 and is_wide(wide) and len(stands_of(wide)) <= 90 and len(found) < many:
                found.append(longer)
    return found


class Wide(unittest.TestCase):
    def test_places_and_texts(self):
        chance = random.Random(1001)
        for blocks in wide_books(60, 1002):
            program = put_in(Book(blocks))
            expected = plain_put_in(blocks[0], blocks)
            rows, leads = [stand.row for stand in stands_of(expected)], reference_nexts(expected)
            self.assertEqual(program.block, expected)
            self.assertEqual(names(program), plain_names(expected))
            self.assertEqual([row_at(program, place) for place in range(len(rows))], rows)
            self.assertEqual([nexts(program, place) for place in range(len(leads))], leads)
            for place in (-1, len(rows), True):
                with self.assertRaises(NoPlace):
                    row_at(program, place)
            way = [0]
            while len(way) < 80 and leads[way[-1]]:
                way.append(chance.choice(leads[way[-1]]))
            self.assertTrue(is_way(program, tuple(way)))
            text = program_text(program)
            self.assertEqual(plain_read(text), expected)
            with self.assertRaises(BadProgram):
                read_program(text)
            lot = frozenset(name for name in names(program) if chance.random() < 0.5)
            behind = lot
            for place in way[:-1]:
                behind = behind if behind is None else plain_lot(rows[place], behind)
            self.assertEqual(holders(program, tuple(way), tuple(sorted(lot))),
                             None if behind is None else tuple(sorted(behind)))

    def test_runs_and_memories(self):
        chance = random.Random(1003)
        for blocks in wide_books(60, 1004):
            program = put_in(Book(blocks))
            run, plain = Run(program, TERMS), ReferenceRun(program.block, TERMS, names(program))
            machine, memory = Machine(program, TERMS, 4), ReferenceMemory(names(program), TERMS, 4)
            full = False
            for _ in range(50):
                after = nexts(program, run.place())
                if not after:
                    break
                which = chance.randrange(len(after))
                row = row_at(program, run.place())
                run.step(which)
                plain.step(which)
                self.assertEqual(shape(run), plain.shape())
                if not full:
                    try:
                        memory.do(row)
                    except NoPlaceLeft:
                        full = True
                        with self.assertRaises(NoRoom):
                            machine.step(which)
                        continue
                    machine.step(which)
                    self.assertEqual((machine.cells(), machine.said()), (memory.told(), run.said()))
            self.assertEqual((run.way(), run.waiting(), run.worked(), run.said()),
                             (tuple(plain.path), plain.waiting(), tuple(plain.order), tuple(plain.printed)))
            self.assertEqual(shape(told(program, run.way(), TERMS)), shape(run))
            while run.way() != (0,):
                run.back()
            self.assertEqual(run.waiting(), ())

    def test_rings_and_shapes(self):
        found = {True: 0, False: 0}
        for blocks in wide_books(120, 1005):
            program, book = put_in(Book(blocks)), Book(blocks)
            one = ring(program)
            self.assertEqual(one is not None, has_plain_ring(program.block))
            self.assertEqual(one is not None, book_ring(book) is not None)
            self.assertEqual(one is not None, book_ring(as_book(program)) is not None)
            found[one is not None] += 1
            if one is not None:
                self.assertTrue(is_ring(program, one))
                self.assertGreaterEqual(len(told(program, round_way(program, one, 9), TERMS).waiting()), 10)
                for function in (greatest, fullest, shapes):
                    with self.assertRaises(Endless):
                        function(program)
                continue
            expected = plain_shapes(program.block, 150)
            if expected is not None:
                most = max(len(each[2]) for each in expected)
                self.assertEqual((shapes(program), greatest(program)), (sorted(expected), most))
                self.assertEqual(fullest(program), next(way for each, way in expected.items() if len(each[2]) == most))
                self.assertTrue(is_closed(program, tuple(expected)))
                self.assertEqual(book_shapes(book), sorted({each[1:] for each in expected}))
                self.assertEqual(book_shapes(as_book(program)), book_shapes(book))
        self.assertGreater(min(found.values()), 30)

    def test_marks(self):
        chance = random.Random(1006)
        for blocks in wide_books(60, 1007, most_names=2):
            program = put_in(Book(blocks))
            places = plain_note_places(program.block)
            vain = [place for place in places if plain_vain_way(program.block, place) is not None]
            self.assertEqual(surely(program), tuple(place for place in places if place not in vain))
            for place in places[:4]:
                self.assertEqual(vain_way(program, place), plain_vain_way(program.block, place))
            some = tuple(place for place in places if chance.random() < 0.5)
            wider = marked(program, some)
            self.assertEqual(wider.block, plain_marked(program.block, some))
            self.assertEqual(ring(wider) is not None, has_plain_ring(wider.block))
            self.assertEqual(is_quiet(program), not has_plain_ring(plain_marked(program.block, surely(program))))
            self.assertEqual(marked(wider, ()), wider)
            with self.assertRaises(NoMarks):
                marked(program, (len(names(program)) + 10 ** 6,))
            if len(places) > 10:
                with self.assertRaises(TooMany):
                    bounds(program)
            elif len(places) <= 5:
                self.assertEqual(bounds(program), plain_bounds(program.block))

    def test_bounds_of_ten_note_rows_among_many_others(self):
        book = Book(((again(call(1), call(2)),), (note("x", "y"), call(2), note("y", "x"), call(2)), (("give", "z", 0),) * 12))
        program = put_in(book)
        self.assertEqual(len(stands_of(program.block)), 39)
        self.assertEqual(bounds(program), plain_bounds(program.block))

    def test_two_thousand_rows(self):
        tens = ((call(2),) * 10, (call(3),) * 10, (either((note("x", "y"), ASK), (note("y", "x"), ("ask", "y"))),) * 2, ())
        program = put_in(Book(((again(call(1), call(4)), call(2)),) + tens))
        self.assertEqual(len(stands_of(program.block)), 1101)
        self.assertEqual((ring(program), greatest(program), is_quiet(program)), (None, 1, True))
        self.assertEqual(len(surely(program)), 440)
        self.assertEqual(book_names(as_book(program)), ("x", "y"))
        self.assertIsNone(vain_way(program, surely(program)[-1]))
        self.assertIsNone(ring(marked(program, surely(program))))


if __name__ == "__main__":
    unittest.main()
