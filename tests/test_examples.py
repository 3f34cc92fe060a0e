"""The examples of the document, word for word."""

import unittest

from putoffpiles.programs import Program, names, nexts
from putoffpiles.runs import shape, told

total = Program((("give", "t", 0), ("again", (("note", "t", "add", ("t",)),)), ("print", "t")))


class Examples(unittest.TestCase):
    def test_e01(self):
        self.assertEqual(nexts(total, 1), (2, 3))
        self.assertEqual(nexts(total, 2), (1,))
        self.assertEqual(names(total), ("t",))

    def test_e02(self):
        r = told(total, (0, 1, 2, 1, 2, 1, 3), {"add": lambda row: row[0] + 1})
        self.assertEqual(r.waiting(), (0, 1))
        self.assertEqual(r.held("t"), ("note", 1))
        self.assertEqual(shape(r), (3, (0,), (("add", (1,)), ("add", (-1,)))))
        r.step(0)
        self.assertEqual(r.said(), (2,))
        self.assertEqual(r.worked(), (0, 1))


if __name__ == "__main__":
    unittest.main()
