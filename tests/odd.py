"""Objects of many kinds, as an argument that is judged may be any of them."""

from putoffpiles.errors import BadProgram, NoPlace
from putoffpiles.programs import Program, names
from putoffpiles.runs import Run

DEEP = 40


def nested(wrap, core):
    """The core with so many wrappings around it."""
    thing = core
    for _ in range(DEEP):
        thing = wrap(thing)
    return thing


def plain_function(row):
    return row


def counting():
    yield 1


def program_of(*rows):
    return Program(tuple(rows))


def odd_things():
    """New objects at each call; none is an integer, a string, or a tuple but those that are named so."""
    program = program_of(("note", "t", "add", ("t",)), ("print", "t"))
    return [
        None, Ellipsis, NotImplemented, b"", b"t", bytearray(b"t"), memoryview(b"t"),
        [], [0], ["t"], [0, 1], {}, {"t": 0}, {0: 1, None: 2, ("t",): 3},
        plain_function, lambda row: 0, len, "t".join, counting(), iter([0]), range(3), slice(0, 1),
        int, str, tuple, Program, Run, NoPlace, object(),
        program, Program(()), Run(program, {"add": plain_function}), NoPlace(), BadProgram(0), names,
        [program], {"t": program}, nested(lambda thing: [thing], 0), nested(lambda thing: {"t": thing}, 0),
    ]


def odd_integers():
    return [-1, -2, 99, 10 ** 30 - 1, -(10 ** 30 - 1)]


def odd_strings():
    return ["", "T", "1", "t ", "t\n", " t", "ninechars", "a" * 20000, "~"]


def odd_tuples():
    program = program_of(("print", "t"))
    return [
        (), ((),), ("",), (None,), (True,), (False,), ([],), ({},), (b"t",), (program,), (plain_function,),
        ("Note",), ("t", 0), (0, True), (0, "1"), (0, None), nested(lambda thing: (thing,), 0),
        nested(lambda thing: (0, thing), 1),
    ]


def anything():
    """All of these, and flags."""
    return [True, False] + odd_things() + odd_integers() + odd_strings() + odd_tuples()
