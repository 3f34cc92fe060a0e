"""Promises 0.2 to 0.5 and 11.1: strangers who work out waiting notes ahead, and change nothing that is said."""

import random
import unittest

from odd import anything
from reference import ReferenceRun, loopy_blocks, some_blocks, stands_of
from reference_piles import TERMS, plain_names
from rows import note
from strangers import Broken
from putoffpiles.ahead import worked_ahead
from putoffpiles.books import Book, put_in
from putoffpiles.errors import BadWorker, NoFunctions, NoNote, NoWay, PileError
from putoffpiles.marks import marked, surely
from putoffpiles.programs import Program, nexts
from putoffpiles.runs import told

TOTAL = Program((("give", "t", 0), ("again", (("note", "t", "add", ("t",)),)), ("print", "t")))
WAY = (0, 1, 2, 1, 2, 1, 3, 4)
PLUS = {"add": lambda row: row[0] + 1}


def straight(*rows):
    """A program of plain rows, and the way through it."""
    return Program(tuple(rows)), tuple(range(len(rows) + 1))


class Worker:
    """Writes down with which tuples it is called, and tells what it is made with."""

    def __init__(self, choose):
        self.choose = choose
        self.asked = []

    def __call__(self, waiting):
        self.asked.append(waiting)
        return self.choose(waiting)


def least(waiting):
    return waiting[0]


def greatest(waiting):
    return waiting[-1]


def nobody(waiting):
    return None


class WorkedAhead(unittest.TestCase):
    def test_how_often_and_with_which_tuples_it_is_asked(self):
        for choose, asked, expected in (
            (least, [(0,), (1,)], ((2,), 1, 2)), (greatest, [(0,), (1,)], ((2,), 1, 2)),
            (nobody, [(0,), (0,), (0, 1), (0, 1)], ((2,), 2, 0)),
        ):
            worker = Worker(choose)
            self.assertEqual(worked_ahead(TOTAL, WAY, PLUS, worker), expected)
            self.assertEqual(worker.asked, asked)

    def test_again_and_again_till_none_waits(self):
        program, way = straight(note("x"), note("y"), note("z", "x", "y"), ("print", "z"))
        worker = Worker(lambda waiting: waiting[0] if len(waiting) > 2 else None)
        self.assertEqual(worked_ahead(program, way, TERMS, worker), ((("f", ("f",), ("f",)),), 3, 1))
        self.assertEqual(worker.asked, [(0,), (0, 1), (0, 1, 2), (1, 2)])
        worker = Worker(lambda waiting: waiting[0] if len(waiting) > 1 or waiting == (2,) else None)
        self.assertEqual(worked_ahead(program, way, TERMS, worker)[1:], (2, 3))
        self.assertEqual(worker.asked, [(0,), (0, 1), (1,), (1, 2), (2,)])

    def test_what_is_beneath_is_worked_out_too(self):
        program, way = straight(note("x"), note("x", "x"), note("x", "x"), ("give", "y", 1), ("print", "x"))
        worker = Worker(lambda waiting: 2 if 2 in waiting else None)
        self.assertEqual(worked_ahead(program, way, TERMS, worker), ((("f", ("f", ("f",))),), 3, 3))
        self.assertEqual(worker.asked, [(0,), (0, 1), (0, 1, 2)])

    def test_each_note_once(self):
        calls = []
        functions = {"f": lambda row: calls.append(row) or len(calls)}
        program, way = straight(note("x"), note("y", "x"), ("print", "y"), ("print", "x"))
        self.assertEqual(worked_ahead(program, way, functions, least)[0], (2, 1))
        self.assertEqual(calls, [(), (1,)])

    def test_not_at_the_end_but_ahead_of_the_last_step(self):
        program, way = straight(note("x"))
        worker = Worker(least)
        self.assertEqual(worked_ahead(program, way, TERMS, worker), ((), 0, 0))
        self.assertEqual(worker.asked, [])
        program, way = straight(note("x"), note("y"))
        self.assertEqual(worked_ahead(program, way, TERMS, worker), ((), 1, 1))
        self.assertEqual(worker.asked, [(0,)])

    def test_notes_that_are_gone_or_worked_out_do_not_wait(self):
        program, way = straight(note("x"), ("ask", "x"), note("x"), ("give", "x", 0), ("give", "y", 0))
        worker = Worker(nobody)
        self.assertEqual(worked_ahead(program, way, TERMS, worker), ((), 1, 0))
        self.assertEqual(worker.asked, [(0,), (1,)])

    def test_ways_of_the_place_zero_alone(self):
        worker = Worker(least)
        self.assertEqual(worked_ahead(Program(()), (0,), {}, worker), ((), 0, 0))
        self.assertEqual(worker.asked, [])

    def test_more_is_worked_out_than_is_asked(self):
        program, way = straight(note("x"), note("y"), ("print", "y"), ("give", "z", 0))
        self.assertEqual(worked_ahead(program, way, TERMS, least), ((("f",),), 1, 2))

    def test_thousands_of_notes_one_beneath_the_other(self):
        way = (0,) + (1, 2) * 3000 + (1, 3, 4)
        worker = Worker(lambda waiting: waiting[-1] if len(waiting) == 3000 else None)
        self.assertEqual(worked_ahead(TOTAL, way, PLUS, worker), ((3000,), 3000, 3000))


class Wrong(unittest.TestCase):
    def test_no_way(self):
        for way in [(0,), (0, 1), (0, 1, 3), (1, 3, 4), (4,), (0, 1, 2, 3, 4), list(WAY), (), WAY + (4,), (False,) + WAY[1:],
                    WAY[:-1] + (True,), "0134", None, (0, 1, 3, 4, 5)] + anything():
            for functions, worker in ((PLUS, least), ({}, least), (None, None)):
                with self.subTest(way=type(way)), self.assertRaises(NoWay):
                    worked_ahead(TOTAL, way, functions, worker)
        for way in [(1,), (0, 0), (False,), [0], ()] + anything():
            with self.assertRaises(NoWay):
                worked_ahead(Program(()), way, {}, least)

    def test_no_functions(self):
        for functions in [{}, {"t": len}, ["add"], "add", {b"add": len}, None] + anything():
            for worker in (least, None):
                with self.subTest(functions=type(functions)), self.assertRaises(NoFunctions):
                    worked_ahead(TOTAL, WAY, functions, worker)

    def test_bad_worker(self):
        odd = [thing for thing in anything() if thing is not None]
        for wrong in [1, 2, -1, True, False, "0", (0,), [0], (), "none", b"0"] + odd:
            with self.subTest(wrong=type(wrong)), self.assertRaises(BadWorker) as caught:
                worked_ahead(TOTAL, WAY, PLUS, lambda waiting: wrong)
            self.assertEqual(caught.exception.number, 3)
            self.assertIs(type(caught.exception.number), int)

    def test_a_number_that_does_not_wait_any_more(self):
        program, way = straight(note("x"), note("y", "x"), ("give", "z", 1), ("give", "z", 2))
        for steps, asked in ((2, [(0,), (1,)]), (1, [(0,)])):
            worker = Worker(lambda waiting: 0 if steps == 2 else 1)
            with self.assertRaises(BadWorker) as caught:
                worked_ahead(program, way, TERMS, worker)
            self.assertEqual((caught.exception.number, worker.asked), (steps, asked))
        program, way = straight(note("x"), note("x"), ("print", "x"))
        for gone in (0, 2):
            with self.assertRaises(BadWorker) as caught:
                worked_ahead(program, way, TERMS, lambda waiting: gone if waiting == (1,) else None)
            self.assertEqual(caught.exception.number, 2)

    def test_how_many_steps_were_done(self):
        for steps in range(3, 8):
            def worker(waiting):
                asked.append(waiting)
                return None if len(asked) < steps - 2 else "wrong"
            asked = []
            if steps < 7:
                with self.assertRaises(BadWorker) as caught:
                    worked_ahead(TOTAL, WAY, PLUS, worker)
                self.assertEqual(caught.exception.number, steps)
            else:
                self.assertEqual(worked_ahead(TOTAL, WAY, PLUS, worker), ((2,), 2, 0))

    def test_errors_of_workers_go_on(self):
        for error in (Broken(), ValueError(), BadWorker(7), NoNote(), KeyError(0), StopIteration()):
            def raises(waiting):
                raise error
            with self.assertRaises(type(error)) as caught:
                worked_ahead(TOTAL, WAY, PLUS, raises)
            self.assertIs(caught.exception, error)

    def test_errors_of_functions_go_on(self):
        for error in (Broken(), ValueError(), BadWorker(7), NoFunctions(), KeyError(0), StopIteration()):
            def raises(row):
                raise error
            for worker in (least, nobody):
                with self.assertRaises(type(error)) as caught:
                    worked_ahead(TOTAL, WAY, {"add": raises}, worker)
                self.assertIs(caught.exception, error)
        # A note that is never asked is not worked out, unless the worker has it so.
        program, way = straight(note("x"), ("give", "x", 0))
        self.assertEqual(worked_ahead(program, way, {"f": raises}, nobody), ((), 1, 0))
        with self.assertRaises(StopIteration):
            worked_ahead(program, way, {"f": raises}, least)

    def test_arguments_are_not_changed(self):
        functions = dict(PLUS)
        worked_ahead(TOTAL, WAY, functions, least)
        self.assertEqual(functions, PLUS)
        self.assertTrue(issubclass(BadWorker, PileError))


def some_way(program, chance, most):
    """A way to the end by chance, or None if it gets too long."""
    way = [0]
    while nexts(program, way[-1]) and len(way) < most:
        way.append(chance.choice(nexts(program, way[-1])))
    return tuple(way) if not nexts(program, way[-1]) else None


def plainly_ahead(block, way, worker):
    """What worked_ahead tells, by a plain run."""
    run = ReferenceRun(block, TERMS, plain_names(block))
    most = many = 0
    for place in way[1:]:
        while run.waiting():
            most = max(most, len(run.waiting()))
            chosen = worker(run.waiting())
            if chosen is None:
                break
            before = len(run.order)
            run.work_out(run.notes[chosen])
            many += len(run.order) - before
        run.do(run.rows[run.path[-1]])
        run.path.append(place)
    return (tuple(run.printed), most, many)


class SeventhFact(unittest.TestCase):
    def test_what_is_said_is_what_told_says(self):
        chance = random.Random(901)
        drawn = 0
        for block in some_blocks(200, 902) + loopy_blocks(200, 903):
            program = Program(block)
            way = some_way(program, chance, 60)
            if way is None or not stands_of(block):
                continue
            expected = told(program, way, TERMS).said()
            for choose in (least, greatest, nobody, lambda waiting: chance.choice(waiting + (None,))):
                worker = Worker(choose)
                triple = worked_ahead(program, way, TERMS, worker)
                self.assertEqual(triple[0], expected)
                self.assertEqual(triple[1], max(map(len, worker.asked), default=0))
                answers = iter(worker.asked)
                if choose in (least, greatest, nobody):
                    self.assertEqual(triple, plainly_ahead(block, way, choose))
                self.assertTrue(all(asked == tuple(sorted(asked)) and asked for asked in answers))
                drawn += len(worker.asked)
        self.assertGreater(drawn, 2000)

    def test_programs_that_are_put_in_and_marked(self):
        book = Book(((("call", 1),) * 9 + (("print", "x"),), (note("x", "x"), ("give", "y", 1), note("y", "x"))))
        for program in (put_in(book), marked(put_in(book), surely(put_in(book)))):
            way = some_way(program, random.Random(904), 100)
            expected = told(program, way, TERMS).said()
            for worker in (least, greatest, nobody):
                self.assertEqual(worked_ahead(program, way, TERMS, worker)[0], expected)


if __name__ == "__main__":
    unittest.main()
