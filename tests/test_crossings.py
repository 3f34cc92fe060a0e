"""How blocks are gone through by the fewest steps, on which the rings of 10.2 and their steps rest."""

import unittest

from reference import reference_nexts
from reference_books import plain_book_names, rows_in, some_books
from reference_piles import plain_lot
from rows import again, call, either, note
from putoffpiles.books import Book
from putoffpiles.bookwalks import Watch
from putoffpiles.crossings import Crossings
from putoffpiles.stands import Stand

MANY = 10 ** 9


def plain_lengths(blocks):
    """For each block and place of it, its end too, the fewest steps from where the block begins, calls gone through."""
    rows, leads = [rows_in(block) for block in blocks], [reference_nexts(block) for block in blocks]
    found = [[0] + [MANY] * len(each) for each in rows]
    before = None
    while before != found:
        before = [list(each) for each in found]
        for n, each in enumerate(rows):
            for place, row in enumerate(each):
                through = found[row[1]][-1] if row[0] == "call" else 0
                for to in leads[n][place]:
                    found[n][to] = min(found[n][to], found[n][place] + 1 + through)
    return found


def plain_lots_behind(blocks, n, lot, deep):
    """The set of the lots behind a block, calls being so deep at most."""
    rows, leads = rows_in(blocks[n]), reference_nexts(blocks[n])
    seen, ahead = set(), [(0, lot)]
    while ahead:
        place, lot = ahead.pop()
        if (place, lot) in seen or not lot:
            continue
        seen.add((place, lot))
        if place < len(rows):
            row = rows[place]
            if row[0] == "call":
                after = plain_lots_behind(blocks, row[1], lot, deep - 1) if deep else set()
            else:
                after = {plain_lot(row, lot)}
            ahead += [(to, each) for each in after for to in leads[place]]
    return {lot for place, lot in seen if place == len(rows)}


class CrossingsTests(unittest.TestCase):
    def test_the_fewest_steps(self):
        for blocks in some_books(150, 1101, True) + some_books(60, 1102):
            book, expected = Book(blocks), plain_lengths(blocks)
            roads = Crossings(book, lambda place, state: [state])
            for n, block in enumerate(blocks):
                self.assertEqual(roads.states_behind(n, None), [None])
                for place in range(len(rows_in(block)) + 1):
                    self.assertEqual(len(roads.path(n, None, (place, None))), expected[n][place], (blocks, n, place))

    def test_the_steps_lead_there(self):
        for blocks in some_books(150, 1103):
            book = Book(blocks)
            roads = Crossings(book, lambda place, state: [state])
            for place in range(len(rows_in(blocks[0])) + 1):
                stand = Stand(book)
                path = roads.path(0, None, (place, None))
                for at, _, which in path:
                    self.assertEqual(stand.piled()[-1], at)
                    stand.go(which)
                self.assertEqual(stand.piled(), ((0, place),) if place < len(rows_in(blocks[0])) else ())

    def test_the_shorter_of_two_ways_is_taken_though_it_is_met_later(self):
        # One side calls what is short, the other one calls what is long; block 2 is known first.
        book = Book(((call(1), call(2), either((call(2), call(2)), (note("x"), note("x"), note("x"), note("x")))),
                     (call(2),), (again(note("x")), note("x"))))
        roads = Crossings(book, lambda place, state: [state])
        self.assertEqual([len(roads.path(n, None, (len(rows_in(block)), None))) for n, block in enumerate(book.blocks)],
                         [1 + 3 + 1 + 2 + 1 + 4, 3, 2])

    def test_states_are_told_apart(self):
        for blocks in some_books(120, 1104, True, most_blocks=3):
            watch = Watch(Book(blocks))
            owners = plain_book_names(blocks)
            for n in range(len(blocks)):
                for name in owners:
                    told = watch.single.states_behind(n, (name,))
                    self.assertEqual(len(told), len(set(told)))
                    self.assertLessEqual(plain_lots_behind(blocks, n, frozenset((name,)), 3), set(map(frozenset, told)))
                    for lot in told:
                        path = watch.single.path(n, (name,), (len(rows_in(blocks[n])), lot))
                        behind = frozenset((name,))
                        for at, state, _ in path:
                            self.assertEqual(frozenset(state), behind)
                            row = rows_in(blocks[at[0]])[at[1]]
                            behind = behind if row[0] == "call" else plain_lot(row, behind)
                        self.assertEqual(behind, frozenset(lot))


if __name__ == "__main__":
    unittest.main()
