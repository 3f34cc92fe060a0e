"""Promises 0.3 to 0.5 and 6.1: machines, their cells and how these are collected."""

import random
import unittest

from odd import anything, odd_things
from reference import loopy_blocks, some_blocks, stands_of
from reference_piles import NoPlaceLeft, ReferenceMemory, TERMS
from putoffpiles.errors import BadStep, IsOver, NoFunctions, NoName, NoNumber, NoRoom
from putoffpiles.machine import Machine
from putoffpiles.piles import fullest, greatest, ring
from putoffpiles.programs import Program, names, nexts, row_at
from putoffpiles.runs import Run, told

LOOP = Program((("give", "t", 0), ("again", (("note", "t", "add", ("t",)),)), ("print", "t")))


class Broken(Exception):
    """What a stranger's function raises."""


def note(name, *ys):
    return ("note", name, "f", ys)


def program_of(*rows):
    return Program(tuple(rows))


def done(size, *rows, functions=TERMS):
    """The machine of plain rows, at its end."""
    machine = Machine(program_of(*rows), functions, size)
    for _ in rows:
        machine.step(0)
    return machine


def seen(machine, program):
    """All that a machine tells."""
    return (machine.place(), machine.way(), [(name, machine.held(name)) for name in names(program)], machine.waiting(),
            machine.worked(), machine.said(), machine.cells(), machine.collected())


class Making(unittest.TestCase):
    def test_it_stands_at_the_beginning(self):
        machine = Machine(LOOP, TERMS, 3)
        self.assertEqual((machine.place(), machine.way(), machine.held("t")), (0, (0,), ("worth", 0)))
        self.assertEqual((machine.waiting(), machine.worked(), machine.said()), ((), (), ()))
        self.assertEqual((machine.cells(), machine.collected()), ((None, None, None), 0))

    def test_sizes(self):
        for size in (1, 2, 999, 1000):
            self.assertEqual(Machine(LOOP, TERMS, size).cells(), (None,) * size)
        for size in [0, -1, 1001, True, False, "1", (1,), [1]] + [thing for thing in anything() if thing != 99]:
            with self.subTest(size=type(size)), self.assertRaises(NoNumber):
                Machine(LOOP, TERMS, size)

    def test_no_functions(self):
        for functions in [{}, {"f": len}, {"t": len}, ["add"], "add", {b"add": len}] + anything():
            for size in (1, 0, None):
                with self.subTest(functions=type(functions)), self.assertRaises(NoFunctions):
                    Machine(LOOP, functions, size)

    def test_functions_of_a_program_without_ops(self):
        self.assertEqual(Machine(program_of(), {}, 1).cells(), (None,))
        for functions in odd_things():
            if not isinstance(functions, dict):
                with self.assertRaises(NoFunctions):
                    Machine(program_of(), functions, 1)

    def test_the_dict_may_change_behind_the_making(self):
        functions = {"add": lambda row: "old"}
        machine = Machine(LOOP, functions, 2)
        functions["add"] = lambda row: "new"
        for which in (0, 0, 0):
            machine.step(which)
        functions.clear()
        for which in (1, 0):
            machine.step(which)
        self.assertEqual(machine.said(), ("old",))

    def test_it_has_nothing_that_leads_back(self):
        for method in ("back", "note", "copy"):
            self.assertFalse(hasattr(Machine(LOOP, TERMS, 1), method))


class Cells(unittest.TestCase):
    def test_a_note_comes_into_the_least_free_cell(self):
        machine = done(3, note("x"), note("y", "x"))
        self.assertEqual(machine.cells(), (("f", ()), ("f", (("cell", 0),)), None))
        self.assertEqual((machine.held("x"), machine.held("y")), (("note", 0), ("note", 1)))

    def test_parts_that_are_worths(self):
        machine = done(2, ("give", "x", 7), note("y", "x", "z", "y"))
        self.assertEqual(machine.cells(), (("f", (("worth", 7), ("worth", 0), ("worth", 0))), None))

    def test_parts_that_are_worked_out_since(self):
        machine = done(2, note("x"), note("y", "x"), ("ask", "x"))
        self.assertEqual(machine.cells(), (("=", ("f",)), ("f", (("worth", ("f",)),))))
        self.assertEqual(machine.held("x"), ("worth", ("f",)))
        machine = done(2, note("x"), ("ask", "x"), note("y", "x"))
        self.assertEqual(machine.cells(), (("=", ("f",)), ("f", (("worth", ("f",)),))))

    def test_nothing_is_freed_before_it_must_be(self):
        machine = done(3, note("x"), note("x"), ("give", "x", 1))
        self.assertEqual(machine.cells(), (("f", ()), ("f", ()), None))
        self.assertEqual((machine.waiting(), machine.collected()), ((), 0))

    def test_it_is_collected_when_none_is_free(self):
        machine = done(2, note("x"), note("x"), note("y", "x"))
        self.assertEqual(machine.cells(), (("f", (("cell", 1),)), ("f", ())))
        self.assertEqual((machine.collected(), machine.waiting(), machine.held("y")), (1, (1, 2), ("note", 0)))

    def test_what_is_worked_out_is_freed(self):
        machine = done(2, note("x"), note("y", "x"), ("ask", "x"), note("z", "x", "y"))
        self.assertEqual(machine.cells(), (("f", (("worth", ("f",)), ("cell", 1))), ("f", (("worth", ("f",)),))))
        self.assertEqual(machine.held("x"), ("worth", ("f",)))
        self.assertEqual(machine.collected(), 1)

    def test_the_name_that_is_written_holds_what_it_held_while_it_is_collected(self):
        program = program_of(note("x"), note("x"))
        machine = Machine(program, TERMS, 1)
        machine.step(0)
        with self.assertRaises(NoRoom):
            machine.step(0)
        self.assertEqual(machine.cells(), (("f", ()),))

    def test_notes_beneath_stay(self):
        rows = (note("x"), note("x", "x"), note("x", "x"))
        machine = done(4, *rows, note("y", "x"))
        self.assertEqual(machine.cells()[3], ("f", (("cell", 2),)))
        machine = Machine(program_of(*rows, note("y")), TERMS, 3)
        for _ in rows:
            machine.step(0)
        with self.assertRaises(NoRoom):
            machine.step(0)

    def test_a_free_cell_is_used_again_the_least_first(self):
        machine = done(3, note("x"), note("y"), note("z"), ("give", "x", 0), ("give", "z", 0), note("z", "y"), note("x"))
        self.assertEqual(machine.cells(), (("f", (("cell", 1),)), ("f", ()), ("f", ())))
        self.assertEqual((machine.held("z"), machine.held("x")), (("note", 0), ("note", 2)))
        self.assertEqual((machine.waiting(), machine.collected()), ((1, 3, 4), 1))

    def test_collect(self):
        machine = done(3, note("x"), note("y", "x"), ("ask", "x"), note("z"), ("give", "z", 0))
        self.assertIsNone(machine.collect())
        self.assertEqual(machine.cells(), (None, ("f", (("worth", ("f",)),)), None))
        self.assertEqual((machine.held("x"), machine.held("y")), (("worth", ("f",)), ("note", 1)))
        self.assertEqual((machine.waiting(), machine.worked(), machine.collected()), ((1,), (0,), 1))
        machine.collect()
        self.assertEqual(machine.collected(), 2)

    def test_collect_of_nothing(self):
        machine = Machine(program_of(), {}, 2)
        machine.collect()
        self.assertEqual((machine.cells(), machine.collected()), ((None, None), 1))

    def test_worths_that_look_like_cells(self):
        machine = done(3, note("x"), ("ask", "x"), note("y", "x"), note("z", "y"), ("ask", "z"), ("print", "x"),
                       functions={"f": lambda row: ("note", 1)})
        self.assertEqual(machine.cells(), (("=", ("note", 1)),) * 3)
        machine.collect()
        self.assertEqual(machine.held("x"), ("worth", ("note", 1)))

    def test_worths_that_are_none(self):
        machine = done(2, note("x"), note("y", "x"), ("ask", "x"), functions={"f": lambda row: None})
        self.assertEqual(machine.cells(), (("=", None), ("f", (("worth", None),))))
        machine.collect()
        self.assertEqual(machine.held("x"), ("worth", None))


class Steps(unittest.TestCase):
    def test_is_over_and_bad_step(self):
        machine = Machine(program_of(note("x"), ("print", "x")), TERMS, 1)
        for which in [1, 2] + anything():
            with self.assertRaises(BadStep):
                machine.step(which)
        self.assertEqual((machine.place(), machine.cells()), (0, (None,)))
        machine.step(0)
        machine.step(0)
        for which in [0] + anything():
            with self.assertRaises(IsOver):
                machine.step(which)
        self.assertEqual((machine.way(), machine.said()), ((0, 1, 2), (("f",),)))

    def test_a_bad_step_comes_ahead_of_no_room(self):
        machine = Machine(program_of(note("x"), note("y")), TERMS, 1)
        machine.step(0)
        with self.assertRaises(BadStep):
            machine.step(1)
        with self.assertRaises(NoRoom):
            machine.step(0)

    def test_held_of_what_is_no_name(self):
        machine = Machine(LOOP, TERMS, 1)
        for name in ["add", "u", "x"] + anything():
            with self.assertRaises(NoName):
                machine.held(name)

    def test_no_room_changes_nothing(self):
        program = program_of(note("x"), note("y", "x"), note("z", "y"), ("ask", "y"), note("z", "y"))
        machine = Machine(program, TERMS, 2)
        machine.step(0)
        machine.step(0)
        before = seen(machine, program)
        for _ in range(2):
            with self.assertRaises(NoRoom):
                machine.step(0)
            self.assertEqual(seen(machine, program), before)
        machine.collect()
        self.assertEqual(machine.collected(), 1)
        with self.assertRaises(NoRoom):
            machine.step(0)
        self.assertEqual(machine.collected(), 1)

    def test_an_error_of_a_function_changes_nothing(self):
        broken = []

        def work(row):
            if broken and row:
                raise broken[0]
            return row

        program = program_of(note("x"), note("y", "x"), ("copy", "z", "y"), ("print", "z"), note("z", "x"))
        for error in (Broken(), ValueError(), IndexError(), KeyError(0), NoRoom(), RecursionError(), StopIteration()):
            machine = Machine(program, {"f": work}, 3)
            for _ in range(3):
                machine.step(0)
            before = seen(machine, program)
            broken.append(error)
            for _ in range(2):
                with self.assertRaises(type(error)) as caught:
                    machine.step(0)
                self.assertIs(caught.exception, error)
                self.assertEqual(seen(machine, program), before)
            broken.clear()
            machine.step(0)
            machine.step(0)
            self.assertEqual((machine.worked(), machine.said()), ((0, 1), (((),),)))
            self.assertEqual(machine.cells()[2], ("f", (("worth", ()),)))

    def test_a_chain_of_nine_hundred_notes(self):
        machine = Machine(LOOP, {"add": lambda row: row[0] + 1}, 1000)
        machine.step(0)
        for _ in range(900):
            machine.step(0)
            machine.step(0)
        self.assertEqual((len(machine.waiting()), machine.cells()[899:901]), (900, (("add", (("cell", 898),)), None)))
        machine.collect()
        machine.step(1)
        machine.step(0)
        self.assertEqual((machine.said(), machine.worked(), machine.collected()), ((900,), tuple(range(900)), 1))

    def test_a_thousand_cells_and_one_note_more(self):
        machine = Machine(LOOP, {"add": lambda row: row[0] + 1}, 1000)
        machine.step(0)
        for _ in range(1000):
            machine.step(0)
            machine.step(0)
        machine.step(0)
        with self.assertRaises(NoRoom):
            machine.step(0)
        self.assertEqual((len(machine.waiting()), machine.collected(), machine.place()), (1000, 0, 2))


def some_steps(program, chance, most):
    """Numbers of next places by chance."""
    run = Run(program, TERMS)
    found = []
    while len(found) < most and nexts(program, run.place()):
        found.append(chance.randrange(len(nexts(program, run.place()))))
        run.step(found[-1])
    return found


class Drawn(unittest.TestCase):
    def test_against_a_plain_memory(self):
        chance = random.Random(81)
        told_rooms = {"collected": 0, "none": 0}
        for block in some_blocks(200, 82) + loopy_blocks(200, 83):
            program = Program(block)
            size = chance.randint(1, 4)
            machine = Machine(program, TERMS, size)
            memory = ReferenceMemory(names(program), TERMS, size)
            for which in some_steps(program, chance, 40):
                row = row_at(program, machine.place())
                try:
                    memory.do(row)
                except NoPlaceLeft:
                    with self.assertRaises(NoRoom):
                        machine.step(which)
                    told_rooms["none"] += 1
                    break
                machine.step(which)
                if chance.random() < 0.05:
                    machine.collect()
                    memory.collect()
                self.assertEqual(machine.cells(), memory.told())
                self.assertEqual([machine.held(name) for name in names(program)],
                                 [memory.held(name) for name in names(program)])
                self.assertEqual((machine.waiting(), machine.worked()), (memory.waiting(), tuple(memory.order)))
                self.assertEqual((machine.said(), machine.collected()), (tuple(memory.printed), memory.times))
            told_rooms["collected"] += machine.collected()
        self.assertGreater(min(told_rooms.values()), 50)

    def test_the_same_as_a_run(self):
        chance = random.Random(84)
        for block in some_blocks(100, 85) + loopy_blocks(100, 86):
            program = Program(block)
            run, machine = Run(program, TERMS), Machine(program, TERMS, 40)
            for which in some_steps(program, chance, 40):
                run.step(which)
                machine.step(which)
                self.assertEqual((machine.place(), machine.way()), (run.place(), run.way()))
                self.assertEqual((machine.waiting(), machine.worked(), machine.said()),
                                 (run.waiting(), run.worked(), run.said()))
                for name in names(program):
                    held = run.held(name)
                    self.assertEqual(machine.held(name) if held[0] == "worth" else machine.held(name)[0],
                                     held if held[0] == "worth" else "note")

    def test_the_third_fact(self):
        chance = random.Random(87)
        many = 0
        for block in some_blocks(80, 88) + loopy_blocks(160, 89):
            program = Program(block)
            if ring(program) is not None:
                continue
            most = greatest(program)
            machine, run = Machine(program, TERMS, most + 1), Run(program, TERMS)
            for which in some_steps(program, chance, 200):
                machine.step(which)
                run.step(which)
            self.assertEqual((machine.said(), machine.waiting()), (run.said(), run.waiting()))
            if most > 1:
                many += 1
                machine = Machine(program, TERMS, most - 1)
                with self.assertRaises(NoRoom):
                    way = fullest(program)
                    for place, after in zip(way, way[1:]):
                        machine.step(nexts(program, place).index(after))
        self.assertGreater(many, 40)

    def test_functions_are_called_as_in_a_run(self):
        chance = random.Random(91)
        for block in loopy_blocks(60, 92):
            logs = ([], [])
            program = Program(block)
            ops = sorted({stand.row[2] for stand in stands_of(block) if stand.row[0] == "note"})
            of_log = [{op: (lambda row, op=op, log=log: log.append((op, row)) or len(log)) for op in ops} for log in logs]
            steps = some_steps(program, chance, 40)
            run, machine = Run(program, of_log[0]), Machine(program, of_log[1], 40)
            for which in steps:
                run.step(which)
                machine.step(which)
            self.assertEqual(logs[0], logs[1])
            self.assertEqual(told(program, run.way(), TERMS).worked(), machine.worked())


if __name__ == "__main__":
    unittest.main()
