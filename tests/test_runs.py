"""Promises 0.3 to 0.5, 2.1, 2.2 and 2.3: runs, and the notes that they make."""

import random
import unittest

from odd import anything, odd_integers, odd_strings, odd_things, odd_tuples
from reference import ReferenceRun, reference_nexts, some_blocks
from putoffpiles.errors import BadStep, IsOver, NoFunctions, NoName, NoNote, NothingDone, NoWay
from putoffpiles.programs import Program, is_way, names, nexts
from putoffpiles.runs import Run, shape, told

LOOP = Program((("give", "t", 0), ("again", (("note", "t", "add", ("t",)),)), ("print", "t")))
LONG = 4000


class Broken(Exception):
    """What a stranger's function raises."""


def term(op):
    """A function that tells how it was called."""
    return lambda row: (op,) + row


TERMS = {op: term(op) for op in ("f", "g", "h", "add")}


def program_of(*rows):
    return Program(tuple(rows))


def run_of(*rows, functions=TERMS):
    return Run(program_of(*rows), functions)


def done(*rows, functions=TERMS):
    """The run of plain rows, at its end."""
    run = run_of(*rows, functions=functions)
    for _ in rows:
        run.step(0)
    return run


def seen(run):
    """All that a run tells."""
    program_names = [name for name in "abcdefghtuvxyz" if has(run, name)]
    notes = []
    for number in range(60):
        try:
            notes.append(run.note(number))
        except NoNote:
            notes.append(None)
    return (run.place(), run.way(), [(name, run.held(name)) for name in program_names], notes, run.waiting(),
            run.worked(), run.said(), shape(run))


def has(run, name):
    try:
        run.held(name)
    except NoName:
        return False
    return True


class Calls:
    """Functions that write down how they are called, and raise when they are told to."""

    def __init__(self, *ops):
        self.log = []
        self.error = None
        self.functions = {op: self.function(op) for op in ops}

    def function(self, op):
        def work(row):
            self.log.append((op, row))
            if self.error is not None and op == "bad":
                raise self.error
            return op + "".join(str(worth) for worth in row)
        return work


class Holding(unittest.TestCase):
    def test_names_hold_zero_at_first(self):
        run = run_of(("copy", "x", "y"), ("print", "z"))
        for name in "xyz":
            self.assertEqual(run.held(name), ("worth", 0))
            self.assertIs(type(run.held(name)[1]), int)
        self.assertEqual(done(("copy", "x", "y"), ("print", "x")).said(), (0,))

    def test_give(self):
        self.assertEqual(done(("give", "x", -5)).held("x"), ("worth", -5))
        self.assertEqual(done(("give", "x", 10 ** 30 - 1), ("print", "x")).said(), (10 ** 30 - 1,))

    def test_a_note_calls_nothing(self):
        calls = Calls("f")
        run = done(("note", "x", "f", ()), ("note", "y", "f", ("x",)), ("copy", "z", "y"), functions=calls.functions)
        self.assertEqual(calls.log, [])
        self.assertEqual([run.held(name) for name in "xyz"], [("note", 0), ("note", 1), ("note", 1)])
        self.assertEqual(run.worked(), ())

    def test_parts_are_taken_when_the_note_is_made(self):
        run = done(("give", "y", 1), ("note", "x", "f", ("y",)), ("give", "y", 2), ("print", "x"))
        self.assertEqual(run.said(), (("f", 1),))

    def test_a_name_may_be_a_part_of_its_own_note(self):
        run = done(("give", "x", 1), ("note", "x", "f", ("x", "x")), ("note", "x", "g", ("x",)), ("print", "x"))
        self.assertEqual(run.said(), (("g", ("f", 1, 1)),))
        self.assertEqual(run.worked(), (0, 1))

    def test_a_copy_shares_the_note(self):
        run = done(("note", "x", "f", ()), ("copy", "y", "x"), ("give", "x", 3))
        self.assertEqual(run.held("y"), ("note", 0))
        self.assertEqual(run.held("x"), ("worth", 3))
        self.assertEqual(run.waiting(), (0,))

    def test_a_copy_of_itself(self):
        self.assertEqual(done(("note", "x", "f", ()), ("copy", "x", "x")).held("x"), ("note", 0))

    def test_ops_and_names_are_apart(self):
        run = done(("give", "f", 4), ("note", "x", "f", ("f",)), ("print", "x"))
        self.assertEqual(run.said(), (("f", 4),))


class WorkingOut(unittest.TestCase):
    def test_an_ask_works_out_and_says_nothing(self):
        run = done(("note", "x", "f", ()), ("ask", "x"))
        self.assertEqual((run.held("x"), run.worked(), run.said()), (("worth", ("f",)), (0,), ()))

    def test_a_print_works_out_and_says(self):
        run = done(("note", "x", "f", ()), ("print", "x"), ("print", "x"))
        self.assertEqual((run.held("x"), run.worked(), run.said()), (("worth", ("f",)), (0,), (("f",), ("f",))))

    def test_an_ask_of_a_worth_does_nothing(self):
        run = done(("give", "x", 1), ("ask", "x"))
        self.assertEqual((run.held("x"), run.worked(), run.said()), (("worth", 1), (), ()))

    def test_parts_first_from_the_left_each_once(self):
        calls = Calls("a", "b", "c", "d", "e")
        run = done(
            ("note", "x", "a", ()), ("note", "y", "b", ("x",)), ("note", "z", "c", ("x",)),
            ("note", "u", "d", ()), ("note", "v", "e", ("z", "y", "z")), ("note", "v", "e", ("v", "u", "x")),
            ("print", "v"), functions=calls.functions)
        self.assertEqual(run.worked(), (0, 2, 1, 4, 3, 5))
        self.assertEqual(calls.log, [
            ("a", ()), ("c", ("a",)), ("b", ("a",)), ("e", ("ca", "ba", "ca")), ("d", ()), ("e", ("ecabaca", "d", "a"))])
        self.assertEqual(run.said(), ("eecabacada",))

    def test_depth_comes_ahead_of_breadth(self):
        run = done(("note", "x", "f", ()), ("note", "y", "g", ("x",)), ("note", "z", "h", ("y", "x")), ("ask", "z"))
        self.assertEqual(run.worked(), (0, 1, 2))
        run = done(("note", "x", "f", ()), ("note", "y", "g", ("x",)), ("note", "u", "g", ()),
                   ("note", "z", "h", ("u", "y", "x")), ("ask", "z"))
        self.assertEqual(run.worked(), (2, 0, 1, 3))

    def test_a_function_gets_one_tuple(self):
        got = []
        done(("give", "x", 7), ("note", "y", "f", ("x", "u")), ("note", "z", "f", ()), ("ask", "y"), ("ask", "z"),
             functions={"f": got.append})
        self.assertEqual(got, [(7, 0), ()])
        self.assertEqual({type(row) for row in got}, {tuple})

    def test_what_is_worked_out_for_one_is_worked_out_for_all(self):
        calls = Calls("f", "g")
        run = done(("note", "x", "f", ()), ("copy", "y", "x"), ("note", "z", "g", ("x",)), ("ask", "y"),
                   functions=calls.functions)
        self.assertEqual([run.held(name) for name in "xyz"], [("worth", "f"), ("worth", "f"), ("note", 1)])
        self.assertEqual(run.note(1), ("g", (("worth", "f"),)))
        self.assertEqual(calls.log, [("f", ())])

    def test_a_later_ask_does_not_call_again(self):
        calls = Calls("f", "g")
        run = done(("note", "x", "f", ()), ("note", "y", "g", ("x",)), ("ask", "x"), ("print", "y"), ("ask", "x"),
                   ("print", "y"), functions=calls.functions)
        self.assertEqual(calls.log, [("f", ()), ("g", ("f",))])
        self.assertEqual((run.worked(), run.said()), ((0, 1), ("gf", "gf")))

    def test_a_note_that_is_gone_is_never_worked_out(self):
        calls = Calls("f", "g")
        run = done(("note", "x", "f", ()), ("note", "x", "g", ()), ("print", "x"), functions=calls.functions)
        self.assertEqual((calls.log, run.worked(), run.said()), ([("g", ())], (1,), ("g",)))

    def test_a_worth_is_any_object(self):
        for worth in anything() + [1.5, 2j, {1, 2}, frozenset(), Broken()]:
            run = done(("note", "x", "f", ()), ("note", "y", "g", ("x",)), ("print", "x"), ("ask", "y"),
                       functions={"f": lambda row, worth=worth: worth, "g": lambda row: row})
            with self.subTest(worth=type(worth)):
                self.assertIs(run.held("x")[1], worth)
                self.assertIs(run.said()[0], worth)
                self.assertIs(run.held("y")[1][0], worth)
                self.assertIs(run.note(0)[1], worth)
                self.assertEqual(run.note(0)[0], "worth")
                self.assertEqual(shape(run)[1:], ((-1, -1), ()))

    def test_worths_that_look_like_held_things(self):
        run = done(("note", "x", "f", ()), ("note", "y", "g", ()), ("note", "z", "f", ("y",)), ("ask", "x"),
                   functions={"f": lambda row: ("note", 1), "g": lambda row: None})
        self.assertEqual(run.held("x"), ("worth", ("note", 1)))
        self.assertEqual(shape(run), (4, (-1, 0, 1), (("g", ()), ("f", (0,)))))


class Waiting(unittest.TestCase):
    def test_notes_beneath_wait(self):
        run = done(("note", "x", "f", ()), ("note", "x", "f", ("x",)), ("note", "x", "f", ("x", "x")))
        self.assertEqual(run.waiting(), (0, 1, 2))

    def test_what_nobody_holds_is_gone(self):
        run = done(("note", "x", "f", ()), ("note", "y", "g", ("x",)), ("give", "x", 0), ("copy", "y", "x"))
        self.assertEqual(run.waiting(), ())
        for expected in ((0, 1), (0, 1), (0,), ()):
            run.back()
            self.assertEqual(run.waiting(), expected)

    def test_what_is_worked_out_does_not_wait(self):
        run = done(("note", "x", "f", ()), ("note", "y", "f", ("x",)), ("note", "z", "f", ("y",)), ("ask", "y"))
        self.assertEqual(run.waiting(), (2,))

    def test_the_lot_is_ascending(self):
        run = done(("note", "z", "f", ()), ("note", "b", "f", ()), ("note", "a", "f", ("z",)))
        self.assertEqual(run.waiting(), (0, 1, 2))


class NoteMethod(unittest.TestCase):
    def test_a_note_that_waits(self):
        run = done(("give", "x", 3), ("note", "y", "f", ()), ("note", "z", "g", ("x", "y", "u")))
        self.assertEqual(run.note(0), ("f", ()))
        self.assertEqual(run.note(1), ("g", (("worth", 3), ("note", 0), ("worth", 0))))

    def test_a_note_that_is_worked_out(self):
        run = done(("note", "x", "f", ()), ("ask", "x"), ("give", "x", 1))
        self.assertEqual(run.note(0), ("worth", ("f",)))

    def test_a_note_beneath_that_only_a_note_holds(self):
        run = done(("note", "x", "f", ()), ("note", "x", "g", ("x",)))
        self.assertEqual(run.note(0), ("f", ()))

    def test_what_is_none(self):
        run = done(("note", "x", "f", ()), ("note", "x", "g", ()))
        self.assertEqual(run.note(1), ("g", ()))
        for thing in [0, 2] + anything():
            with self.subTest(thing=type(thing)), self.assertRaises(NoNote):
                run.note(thing)

    def test_one_that_went_with_the_note_above(self):
        run = done(("note", "x", "f", ()), ("note", "x", "g", ("x",)), ("give", "x", 0))
        for number in (0, 1):
            with self.assertRaises(NoNote):
                run.note(number)
        run.back()
        self.assertEqual(run.note(0), ("f", ()))


class Stepping(unittest.TestCase):
    def test_it_stands_at_the_beginning(self):
        run = Run(LOOP, TERMS)
        self.assertEqual((run.place(), run.way(), run.waiting(), run.worked(), run.said()), (0, (0,), (), (), ()))

    def test_step_goes_to_the_next_place_with_the_number(self):
        run = Run(LOOP, TERMS)
        for which, place in ((0, 1), (0, 2), (0, 1), (1, 3), (0, 4)):
            self.assertIsNone(run.step(which))
            self.assertEqual(run.place(), place)
        self.assertEqual(run.way(), (0, 1, 2, 1, 3, 4))

    def test_choices_and_loops_change_nothing_else(self):
        run = run_of(("note", "x", "f", ()), ("either", (), ()), ("again", ()))
        run.step(0)
        for which in (1, 0, 1):
            run.step(which)
            self.assertEqual((run.held("x"), run.waiting(), run.worked(), run.said()), (("note", 0), (0,), (), ()))
        self.assertEqual(run.way(), (0, 1, 2, 2, 3))

    def test_is_over(self):
        run = done(("print", "x"))
        for which in [0, 1] + anything():
            with self.assertRaises(IsOver):
                run.step(which)
        self.assertEqual((run.way(), run.said()), ((0, 1), (0,)))

    def test_the_empty_program_is_over_at_once(self):
        run = run_of()
        self.assertEqual((run.place(), run.way(), shape(run)), (0, (0,), (0, (), ())))
        with self.assertRaises(IsOver):
            run.step(0)
        self.assertTrue(is_way(program_of(), run.way()))

    def test_bad_step(self):
        calls = Calls("f")
        run = told(program_of(("note", "x", "f", ()), ("print", "x")), (0, 1), calls.functions)
        before = seen(run)
        for which in [1, 2] + anything():
            with self.subTest(which=type(which)), self.assertRaises(BadStep):
                run.step(which)
        self.assertEqual((seen(run), calls.log), (before, []))
        run = told(LOOP, (0, 1), TERMS)
        for which in [2, 3] + anything():
            with self.subTest(which=type(which)), self.assertRaises(BadStep):
                run.step(which)
        self.assertEqual(run.way(), (0, 1))

    def test_held_of_what_is_no_name_of_the_program(self):
        run = run_of(("note", "x", "f", ()), ("either", (("ask", "y"),), ()))
        self.assertEqual(run.held("y"), ("worth", 0))
        for thing in ["f", "t", "xx", "z"] + anything():
            with self.subTest(thing=type(thing)), self.assertRaises(NoName):
                run.held(thing)


class Functions(unittest.TestCase):
    def test_what_is_no_dict_with_the_ops(self):
        program = program_of(("note", "x", "f", ()), ("again", (("note", "x", "g", ()),)))
        lacking = [{}, {"f": len}, {"g": len}, {"f": len, "x": len}, ["f", "g"], "fg", ("f", "g"), {b"f": len, "g": len}]
        for thing in lacking + anything():
            with self.subTest(thing=type(thing)), self.assertRaises(NoFunctions):
                Run(program, thing)

    def test_what_is_no_dict_for_a_program_without_ops(self):
        for thing in anything():
            if isinstance(thing, dict):
                Run(LOOP_FREE, thing)
            else:
                with self.subTest(thing=type(thing)), self.assertRaises(NoFunctions):
                    Run(LOOP_FREE, thing)

    def test_more_keys_and_other_keys_do_no_harm(self):
        run = Run(LOOP, {"add": term("add"), "more": None, 3: len, None: 0, ("add",): [], b"add": {}})
        run.step(0)
        self.assertEqual(run.place(), 1)

    def test_values_are_not_judged_when_it_is_made(self):
        for thing in anything():
            self.assertEqual(Run(LOOP, {"add": thing}).place(), 0)

    def test_a_dict_that_changes_behind_the_making_changes_nothing(self):
        functions = {"add": lambda row: "old"}
        run = Run(LOOP, functions)
        gone = told(LOOP, (0, 1, 2), functions)
        functions["add"] = lambda row: "new"
        for which in (0, 0, 0, 1, 0):
            run.step(which)
        functions.clear()
        for which in (0, 1, 0):
            gone.step(which)
        twin = gone.copy()
        twin.back()
        twin.step(0)
        self.assertEqual((run.said(), gone.said(), twin.said()), (("old",), ("old",), ("old",)))

    def test_the_dict_is_not_changed(self):
        functions = {"add": len, "more": None}
        told(LOOP, (0, 1, 2, 1, 3, 4), functions)
        self.assertEqual(functions, {"add": len, "more": None})


LOOP_FREE = Program((("copy", "t", "u"), ("print", "t")))


class Raising(unittest.TestCase):
    ROWS = (("note", "x", "f", ()), ("note", "y", "bad", ("x",)), ("note", "z", "g", ("x", "y", "u")), ("copy", "u", "x"))

    def test_nothing_has_changed(self):
        for row in (("ask", "z"), ("print", "z")):
            for error in (Broken(), ValueError("x"), KeyError("f"), StopIteration(), RecursionError(), IndexError(),
                          TypeError(), AttributeError(), NoNote(), IsOver(), KeyboardInterrupt(), GeneratorExit()):
                calls = Calls("f", "g", "bad")
                run = run_of(*self.ROWS, row, functions=calls.functions)
                for _ in self.ROWS:
                    run.step(0)
                before = seen(run)
                calls.error = error
                for many in (1, 2):
                    with self.subTest(row=row, error=type(error)), self.assertRaises(type(error)) as caught:
                        run.step(0)
                    self.assertIs(caught.exception, error)
                    self.assertEqual(seen(run), before)
                    self.assertEqual(calls.log, [("f", ()), ("bad", ("f",))] * many)

    def test_it_can_be_asked_again(self):
        calls = Calls("f", "g", "bad")
        run = run_of(*self.ROWS, ("print", "z"), functions=calls.functions)
        for _ in self.ROWS:
            run.step(0)
        calls.error = Broken()
        with self.assertRaises(Broken):
            run.step(0)
        calls.error = None
        calls.log.clear()
        run.step(0)
        self.assertEqual(calls.log, [("f", ()), ("bad", ("f",)), ("g", ("f", "badf", 0))])
        self.assertEqual((run.worked(), run.said(), run.waiting()), ((0, 1, 2), ("gfbadf0",), ()))

    def test_steps_ahead_can_be_taken_back_as_before(self):
        calls = Calls("f", "g", "bad")
        calls.error = Broken()
        run = run_of(*self.ROWS, ("print", "z"), functions=calls.functions)
        before = []
        for _ in self.ROWS:
            before.append(seen(run))
            run.step(0)
        with self.assertRaises(Broken):
            run.step(0)
        while before:
            run.back()
            self.assertEqual(seen(run), before.pop())

    def test_what_is_no_function_is_like_a_function_that_raises(self):
        run = done(("note", "x", "f", ()), ("note", "y", "g", ("x",)), functions={"f": len, "g": None})
        twin = run_of(("note", "x", "f", ()), ("note", "y", "g", ("x",)), ("ask", "y"), functions={"f": len, "g": None})
        for _ in range(2):
            twin.step(0)
        with self.assertRaises(TypeError):
            twin.step(0)
        self.assertEqual(seen(twin), seen(run))

    def test_told_lets_errors_go_on(self):
        calls = Calls("bad")
        calls.error = Broken()
        with self.assertRaises(Broken) as caught:
            told(program_of(("note", "x", "bad", ()), ("ask", "x")), (0, 1, 2), calls.functions)
        self.assertIs(caught.exception, calls.error)


class GoingBack(unittest.TestCase):
    def test_nothing_done(self):
        run = Run(LOOP, TERMS)
        for _ in range(2):
            with self.assertRaises(NothingDone):
                run.back()
        run.step(0)
        self.assertIsNone(run.back())
        with self.assertRaises(NothingDone):
            run.back()
        self.assertEqual((run.place(), run.way()), (0, (0,)))

    def test_each_row_is_taken_back(self):
        rows = (("give", "x", 4), ("note", "y", "f", ("x",)), ("copy", "x", "y"), ("note", "z", "g", ("y", "x")),
                ("ask", "x"), ("print", "z"), ("either", (), ()), ("note", "z", "h", ("z",)), ("give", "z", 1),
                ("again", ()), ("print", "y"))
        run = run_of(*rows)
        before = []
        for row in rows:
            before.append(seen(run))
            run.step(1 if row[0] == "again" else 0)
        while before:
            run.back()
            self.assertEqual(seen(run), before.pop())

    def test_numbers_of_notes_are_taken_back(self):
        run = run_of(("either", (("note", "x", "f", ()),), (("note", "y", "g", ()),)), ("note", "z", "h", ("x", "y")))
        run.step(0)
        run.step(0)
        self.assertEqual((run.held("x"), run.held("y")), (("note", 0), ("worth", 0)))
        run.back()
        with self.assertRaises(NoNote):
            run.note(0)
        run.back()
        run.step(1)
        run.step(0)
        self.assertEqual((run.held("x"), run.held("y")), (("worth", 0), ("note", 0)))
        run.step(0)
        self.assertEqual(run.held("z"), ("note", 1))
        self.assertEqual(run.note(1), ("h", (("worth", 0), ("note", 0))))

    def test_what_was_worked_out_is_noted_again(self):
        calls = Calls("f")
        run = run_of(("note", "x", "f", ()), ("ask", "x"), ("print", "x"), functions=calls.functions)
        run.step(0)
        run.step(0)
        run.back()
        self.assertEqual((run.held("x"), run.worked(), run.waiting(), run.note(0)), (("note", 0), (), (0,), ("f", ())))
        run.step(0)
        run.step(0)
        self.assertEqual((calls.log, run.said()), ([("f", ())] * 2, ("f",)))

    def test_it_calls_nothing(self):
        calls = Calls("f")
        run = done(("note", "x", "f", ()), ("ask", "x"), functions=calls.functions)
        run.back()
        self.assertEqual(calls.log, [("f", ())])


class Copies(unittest.TestCase):
    def test_a_copy_is_a_run_that_tells_the_same(self):
        run = told(LOOP, (0, 1, 2, 1, 2, 1), TERMS)
        twin = run.copy()
        self.assertIs(type(twin), Run)
        self.assertIsNot(twin, run)
        self.assertEqual(seen(twin), seen(run))

    def test_they_go_on_apart(self):
        run = told(LOOP, (0, 1, 2, 1), TERMS)
        before = seen(run)
        twin = run.copy()
        twin.step(1)
        twin.step(0)
        self.assertEqual(seen(run), before)
        after = seen(twin)
        run.step(0)
        run.step(0)
        self.assertEqual((seen(twin), run.waiting()), (after, (0, 1)))

    def test_they_go_back_apart(self):
        run = told(LOOP, (0, 1, 2, 1, 3, 4), TERMS)
        before = seen(run)
        twin = run.copy()
        for _ in range(5):
            twin.back()
        with self.assertRaises(NothingDone):
            twin.back()
        self.assertEqual((seen(run), seen(twin)), (before, seen(Run(LOOP, TERMS))))
        other = run.copy()
        run.back()
        self.assertEqual((seen(other), run.said(), other.worked()), (before, (), (0,)))

    def test_a_copy_of_a_copy(self):
        run = told(LOOP, (0, 1, 2, 1), TERMS)
        twin = run.copy().copy()
        run.step(1)
        run.step(0)
        self.assertEqual(seen(twin), seen(told(LOOP, (0, 1, 2, 1), TERMS)))


class Told(unittest.TestCase):
    def test_the_run_that_went_this_way(self):
        for way in ((0,), (0, 1), (0, 1, 3, 4), (0, 1, 2, 1, 2, 1, 3, 4)):
            run = told(LOOP, way, TERMS)
            self.assertIs(type(run), Run)
            self.assertEqual((run.way(), run.place()), (way, way[-1]))
        self.assertEqual(run.said(), (("add", ("add", 0)),))

    def test_two_next_places_that_are_one(self):
        program = program_of(("either", (), ()), ("print", "x"))
        run = told(program, (0, 1, 2), {})
        self.assertEqual((run.way(), run.said()), ((0, 1, 2), (0,)))

    def test_an_empty_again(self):
        self.assertEqual(told(program_of(("again", ())), (0, 0, 0, 1), {}).way(), (0, 0, 0, 1))

    def test_no_way(self):
        calls = Calls("add")
        bad = [(), (1,), (1, 2, 1), (4,), (0, 2), (0, 0), (0, 1, 3, 4, 5), [0, 1], (0, True), (False, 1), (0, 1, 2, 3)]
        for way in bad + anything():
            with self.subTest(way=type(way)), self.assertRaises(NoWay):
                told(LOOP, way, calls.functions)
        self.assertEqual(calls.log, [])

    def test_no_functions(self):
        for thing in [{}, {"ad": len}] + anything():
            with self.subTest(thing=type(thing)), self.assertRaises(NoFunctions):
                told(LOOP, (0, 1), thing)

    def test_the_way_is_looked_at_first(self):
        for way in ((1, 2), None, [0]):
            with self.assertRaises(NoWay):
                told(LOOP, way, None)

    def test_it_goes_on_and_back(self):
        run = told(LOOP, (0, 1, 2, 1), TERMS)
        run.back()
        self.assertEqual((run.place(), run.waiting()), (2, ()))


class Shapes(unittest.TestCase):
    def test_of_the_beginning(self):
        self.assertEqual(shape(Run(LOOP, TERMS)), (0, (-1,), ()))
        self.assertEqual(shape(run_of(("copy", "b", "a"))), (0, (-1, -1), ()))

    def test_notes_are_numbered_through_the_names_in_their_order(self):
        run = done(("note", "c", "f", ()), ("note", "a", "g", ()), ("note", "b", "h", ()))
        self.assertEqual(shape(run), (3, (0, 1, 2), (("g", ()), ("h", ()), ("f", ()))))

    def test_each_with_all_beneath_it_ahead_of_the_next(self):
        run = done(("note", "x", "f", ()), ("note", "y", "g", ("x",)), ("note", "z", "h", ("y", "x")),
                   ("note", "a", "f", ("z", "y")), ("give", "y", 0))
        self.assertEqual(shape(run), (5, (0, 3, -1, 1),
                                      (("f", (1, 2)), ("h", (2, 3)), ("g", (3,)), ("f", ()))))

    def test_one_that_is_met_late_but_named_early(self):
        # The second part of a is met beneath the first one already.
        run = done(("note", "x", "f", ()), ("note", "y", "g", ()), ("note", "z", "h", ("y", "x")),
                   ("note", "a", "f", ("z", "x", "y")))
        self.assertEqual(shape(run)[1:], ((0, 3, 2, 1), (("f", (1, 3, 2)), ("h", (2, 3)), ("g", ()), ("f", ()))))

    def test_worths_are_not_told(self):
        one = done(("give", "x", 1), ("note", "y", "f", ("x",)))
        two = done(("give", "x", 2), ("note", "y", "f", ("x",)))
        self.assertEqual(shape(one), shape(two))
        self.assertEqual(shape(one), (2, (-1, 0), (("f", (-1,)),)))

    def test_what_was_worked_out_is_a_worth(self):
        run = done(("note", "x", "f", ()), ("note", "y", "g", ("x", "x", "u")), ("ask", "x"))
        self.assertEqual(shape(run), (3, (-1, -1, 0), (("g", (-1, -1, -1)),)))

    def test_names_that_share_a_note(self):
        run = done(("note", "b", "f", ()), ("copy", "a", "b"), ("note", "c", "g", ("a", "b")))
        self.assertEqual(shape(run), (3, (0, 0, 1), (("f", ()), ("g", (0, 0)))))

    def test_a_run_is_not_changed(self):
        run = told(LOOP, (0, 1, 2, 1), TERMS)
        before = seen(run)
        shape(run)
        self.assertEqual(seen(run), before)


class LongChains(unittest.TestCase):
    def test_a_chain_that_is_asked_at_the_end(self):
        calls = []
        way = (0,) + (1, 2) * LONG + (1, 3)
        run = told(LOOP, way, {"add": lambda row: calls.append(row) or row[0] + 1})
        self.assertEqual((run.waiting(), calls), (tuple(range(LONG)), []))
        self.assertEqual(shape(run), (3, (0,), tuple(
            ("add", (k + 1,)) if k + 1 < LONG else ("add", (-1,)) for k in range(LONG))))
        self.assertEqual(run.note(LONG - 1), ("add", (("note", LONG - 2),)))
        twin = run.copy()
        run.step(0)
        self.assertEqual(calls, [(k,) for k in range(LONG)])
        self.assertEqual((run.said(), run.worked(), run.waiting()), ((LONG,), tuple(range(LONG)), ()))
        self.assertEqual(twin.waiting(), tuple(range(LONG)))
        run.back()
        self.assertEqual((run.worked(), run.held("t"), run.waiting()), ((), ("note", LONG - 1), tuple(range(LONG))))
        for _ in range(2 * LONG):
            run.back()
        self.assertEqual((run.way(), run.held("t"), run.waiting()), ((0, 1, 2), ("worth", 0), ()))

    def test_a_chain_whose_notes_are_parts_thrice(self):
        calls = []
        program = program_of(("again", (("note", "t", "f", ("t", "t", "t")),)), ("print", "t"))
        run = told(program, (0, 1) * LONG + (0, 2), {"f": lambda row: calls.append(row) or max(row) + 1})
        run.step(0)
        self.assertEqual((run.said(), len(calls), run.worked()), ((LONG,), LONG, tuple(range(LONG))))

    def test_a_chain_that_raises_at_its_last_note(self):
        def work(row):
            if row[0] == LONG - 1:
                raise Broken()
            return row[0] + 1

        run = told(LOOP, (0,) + (1, 2) * LONG + (1, 3), {"add": work})
        with self.assertRaises(Broken):
            run.step(0)
        self.assertEqual((run.worked(), run.place(), len(run.waiting())), ((), 3, LONG))

    def test_worths_that_are_nested_deep(self):
        run = told(LOOP, (0,) + (1, 2) * LONG + (1, 3, 4), {"add": lambda row: row})
        worth, deep = run.said()[0], 0
        while worth != 0:
            worth, deep = worth[0], deep + 1
        self.assertEqual(deep, LONG)
        twin = run.copy()
        twin.back()
        self.assertIs(run.note(LONG - 1)[1], run.held("t")[1])
        self.assertEqual(shape(run), (4, (-1,), ()))

    def test_a_long_stand_of_rows_that_let_notes_go(self):
        program = program_of(("again", (("note", "t", "f", ("u",)),)))
        run = told(program, (0, 1) * LONG + (0,), TERMS)
        self.assertEqual(run.waiting(), (LONG - 1,))
        with self.assertRaises(NoNote):
            run.note(0)


class AgainstTheReference(unittest.TestCase):
    def assert_same(self, run, other):
        self.assertEqual(run.way(), tuple(other.path))
        self.assertEqual(run.place(), other.path[-1])
        self.assertEqual([run.held(name) for name in other.all_names],
                         [other.tell(other.heads[name]) for name in other.all_names])
        self.assertEqual((run.waiting(), run.worked(), run.said()),
                         (other.waiting(), tuple(other.order), tuple(other.printed)))
        self.assertEqual(shape(run), other.shape())
        for number in range(len(other.notes) + 1):
            expected = other.note(number) if number < len(other.notes) else None
            if expected is None:
                self.assertRaises(NoNote, run.note, number)
            else:
                self.assertEqual(run.note(number), expected)

    def test_steps_and_steps_back(self):
        chance = random.Random(7)
        for block in some_blocks(250, 11):
            program = Program(block)
            leads = reference_nexts(block)
            functions = {op: lambda row, op=op: op + "(" + ",".join(map(str, row))[:40] + ")" for op in TERMS}
            run = Run(program, functions)
            other = ReferenceRun(block, functions, names(program))
            self.assert_same(run, other)
            for _ in range(25):
                after = leads[run.place()]
                if other.steps and (not after or chance.random() < 0.2):
                    aside = run.copy()
                    run.back()
                    other.back()
                    if chance.random() < 0.5:
                        run = run.copy()
                    self.assertEqual(aside.way()[:-1], run.way())
                elif after:
                    which = chance.randrange(len(after))
                    run.step(which)
                    other.step(which)
                self.assert_same(run, other)
            self.assert_same(told(program, run.way(), functions), other)

    def test_each_way_is_a_way(self):
        chance = random.Random(5)
        for block in some_blocks(50, 13):
            program = Program(block)
            run = Run(program, TERMS)
            for _ in range(12):
                after = nexts(program, run.place())
                if after:
                    run.step(chance.randrange(len(after)))
            self.assertTrue(is_way(program, run.way()))


class Equality(unittest.TestCase):
    def test_a_run_is_equal_to_nothing_of_another_class(self):
        run = Run(LOOP, TERMS)
        for thing in [True, False] + odd_things() + odd_integers() + odd_strings() + odd_tuples():
            self.assertIs(run == thing, False)


if __name__ == "__main__":
    unittest.main()
