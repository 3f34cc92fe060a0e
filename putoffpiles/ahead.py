"""Working ahead: notes that wait are worked out between steps, as a stranger chooses."""

from putoffpiles.errors import BadWorker, NoWay
from putoffpiles.programs import end_of, is_integer, is_way
from putoffpiles.runs import Run, go_to, work_ahead


def let_work(run, worker, number):
    """The pair of the greatest number of notes that wait, and of how many were worked out, behind so many steps."""
    most = 0
    many = 0
    waiting = run.waiting()
    while waiting:
        most = max(most, len(waiting))
        chosen = worker(waiting)
        if chosen is None:
            return (most, many)
        if not is_integer(chosen) or chosen not in waiting:
            raise BadWorker(number)
        many += work_ahead(run, chosen)
        waiting = run.waiting()
    return (most, many)


def worked_ahead(program, way, functions, worker):
    """The triple of what is said, how many notes wait at most when the worker is asked, and how many it works out."""
    if not is_way(program, way) or way[0] != 0 or way[-1] != end_of(program):
        raise NoWay()
    run = Run(program, functions)
    most = 0
    many = 0
    for number, place in enumerate(way[1:]):
        waited, worked = let_work(run, worker, number)
        most = max(most, waited)
        many += worked
        go_to(run, place)
    return (run.said(), most, many)
