"""The examples of the document, word for word."""

import unittest

from putoffpiles.ahead import worked_ahead
from putoffpiles.bookrings import is_book_ring
from putoffpiles.bookruns import book_told
from putoffpiles.books import Book
from putoffpiles.holders import holders
from putoffpiles.marks import bounds, is_quiet, surely, vain_way
from putoffpiles.passages import is_back, is_there
from putoffpiles.piles import fullest, greatest, ring, round_way, shapes
from putoffpiles.programs import Program, names, nexts
from putoffpiles.runs import shape, told
from putoffpiles.sessions import Session
from putoffpiles.texts import program_text

total = Program((("give", "t", 0), ("again", (("note", "t", "add", ("t",)),)), ("print", "t")))
last = Program((("give", "a", 1), ("again", (("note", "c", "f", ("a",)),)), ("print", "c")))
back = Book(((("give", "t", 0), ("call", 1), ("print", "t")),
             (("either", (("call", 1), ("note", "t", "add", ("t",))), ()),)))


class Examples(unittest.TestCase):
    def test_e01(self):
        self.assertEqual(nexts(total, 1), (2, 3))
        self.assertEqual(nexts(total, 2), (1,))
        self.assertEqual(names(total), ("t",))

    def test_e02(self):
        r = told(total, (0, 1, 2, 1, 2, 1, 3), {"add": lambda row: row[0] + 1})
        self.assertEqual(r.waiting(), (0, 1))
        self.assertEqual(r.held("t"), ("note", 1))
        self.assertEqual(shape(r), (3, (0,), (("add", (1,)), ("add", (-1,)))))
        r.step(0)
        self.assertEqual(r.said(), (2,))
        self.assertEqual(r.worked(), (0, 1))

    def test_e03(self):
        self.assertEqual(holders(total, (1, 2, 1), ("t",)), ("t",))
        self.assertIsNone(holders(total, (3, 4), ("t",)))

    def test_e04(self):
        self.assertEqual(ring(total), (2, (1, 2, 1), ("t",)))
        self.assertEqual(round_way(total, (2, (1, 2, 1), ("t",)), 1), (0, 1, 2, 1, 2, 1))

    def test_e05(self):
        self.assertIsNone(ring(last))
        self.assertEqual(greatest(last), 1)
        self.assertEqual(fullest(last), (0, 1, 2, 1))
        self.assertEqual(shapes(last), [
            (0, (-1, -1), ()), (1, (-1, -1), ()), (1, (-1, 0), (("f", (-1,)),)), (2, (-1, -1), ()),
            (2, (-1, 0), (("f", (-1,)),)), (3, (-1, -1), ()), (3, (-1, 0), (("f", (-1,)),)), (4, (-1, -1), ())])

    def test_e06(self):
        self.assertEqual(surely(last), ())
        self.assertEqual(vain_way(last, 2), (0, 1, 2, 1, 2, 1, 3, 4))
        self.assertEqual(surely(total), (2,))
        self.assertEqual(bounds(total), ((2,),))
        self.assertIs(is_quiet(total), True)

    def test_e07(self):
        self.assertEqual(program_text(total), "t = 0\nagain\n  t = add(t)\nprint t\n")

    def test_e08(self):
        s = Session({"add": lambda row: sum(row)})
        s.do(("give", "a", 2))
        s.do(("note", "b", "add", ("a", "a")))
        self.assertEqual(s.waiting(), (0,))
        self.assertEqual(s.journal(), "a = 2 #722\nb = add(a, a) #5940\n")

    def test_e09(self):
        self.assertIs(is_back(back, 1, ((1, 2),)), True)
        self.assertIs(is_book_ring(back, ("back", (1, -1), ((1, 2),), 0, ("t",))), True)
        self.assertIs(is_there(back, (1, -1), ((1, 0), (1, 1))), True)

    def test_e10(self):
        run = book_told(back, (0, 0, 0, 0, 1, 0), {"add": lambda row: row[0] + 1})
        self.assertEqual(run.pile(), ((0, 2),))
        self.assertEqual(run.rows(), ((0, 0), (0, 1), (1, 0), (1, 1), (1, 0), (1, 2)))
        self.assertEqual(run.waiting(), (0,))

    def test_e11(self):
        self.assertEqual(worked_ahead(
            total, (0, 1, 2, 1, 2, 1, 3, 4), {"add": lambda row: row[0] + 1}, lambda row: row[0]), ((2,), 1, 2))


if __name__ == "__main__":
    unittest.main()
