"""shape, cells, at, set."""

import unittest

from helper import DeskCase, GREATEST, INT64_LEAST, INT64_MOST, WORD_MOST, ask

SETUP = [
    ("count", 0, 10, 1, [2, 3]),
    ("make", 1, [], [77]),
    ("count", 2, 0, 1, [2, 1, 3, 2]),
    ("fill", 3, -1, [1024]),
]


class ShapeAndCells(DeskCase):
    def test_ordinary(self):
        self.told([2, 3], SETUP, "shape", 0)
        self.told([10, 11, 12, 13, 14, 15], SETUP, "cells", 0)
        self.told([2, 1, 3, 2], SETUP, "shape", 2)
        self.told(list(range(12)), SETUP, "cells", 2)
        self.told([1024], SETUP, "shape", 3)
        self.told([-1] * 1024, SETUP, "cells", 3)

    def test_rank_0(self):
        self.told([], SETUP, "shape", 1)
        self.told([77], SETUP, "cells", 1)

    def test_refusals(self):
        for name in ("shape", "cells"):
            for i in (4, 7):
                self.refused(-2, SETUP, name, i)
            for i in (8, WORD_MOST):
                self.refused(-1, SETUP, name, i)


class At(DeskCase):
    def test_ordinary(self):
        for row in range(2):
            for column in range(3):
                self.told([10 + 3 * row + column], SETUP, "at", 0, [row, column])
        self.told([1 * 6 + 0 + 2 * 2 + 1], SETUP, "at", 2, [1, 0, 2, 1])
        self.told([77], SETUP, "at", 1, [])

    def test_no_such_place(self):
        for place in ([], [0], [1], [0, 0, 0], [2, 0], [0, 3], [0, WORD_MOST], [WORD_MOST, 0], [0] * 2000):
            self.refused(-4, SETUP, "at", 0, place)
        for place in ([0], [0, 0], [1], [0] * 5):
            self.refused(-4, SETUP, "at", 1, place)
        for place in ([0, 1, 0, 0], [2, 0, 0, 0], [0, 0, 3, 0], [0, 0, 0, 2], [0, 0, 0], [0, 0, 0, 0, 0]):
            self.refused(-4, SETUP, "at", 2, place)
        self.refused(-4, SETUP, "at", 3, [1024])
        self.told([-1], SETUP, "at", 3, [1023])

    def test_refusals_in_order(self):
        self.refused(-1, SETUP, "at", 8, [9, 9, 9])
        self.refused(-1, SETUP, "at", WORD_MOST, [0])
        self.refused(-2, SETUP, "at", 4, [9, 9, 9])
        self.refused(-2, SETUP, "at", 7, [])


class Set(DeskCase):
    def test_ordinary(self):
        self.made(0, [2, 3], [10, 11, 12, 13, 14, -9], SETUP, "set", 0, -9, [1, 2])
        self.made(0, [2, 3], [-9, 11, 12, 13, 14, 15], SETUP, "set", 0, -9, [0, 0])
        self.made(1, [], [5], SETUP, "set", 1, 5, [])
        cells = list(range(12))
        cells[6 + 2 * 1 + 1] = 100
        self.made(2, [2, 1, 3, 2], cells, SETUP, "set", 2, 100, [1, 0, 1, 1])

    def test_bounds(self):
        for v in (GREATEST, -GREATEST):
            self.made(0, [2, 3], [10, v, 12, 13, 14, 15], SETUP, "set", 0, v, [0, 1])
        for v in (GREATEST + 1, -GREATEST - 1, INT64_LEAST, INT64_MOST):
            self.refused(-1, SETUP, "set", 0, v, [0, 1])

    def test_no_such_place(self):
        for place in ([], [0], [0, 0, 0], [2, 0], [0, 3], [WORD_MOST, WORD_MOST], [0] * 2000):
            self.refused(-4, SETUP, "set", 0, 1, place)
        self.refused(-4, SETUP, "set", 1, 1, [0])

    def test_refusals_in_order(self):
        self.refused(-1, SETUP, "set", 8, 1, [0, 0])
        self.refused(-1, SETUP, "set", 0, GREATEST + 1, [5, 5])
        self.refused(-2, SETUP, "set", 4, 1, [0, 0])
        self.refused(-2, SETUP, "set", 4, GREATEST + 1, [5, 5])

    def test_other_slots_of_the_same_cells_stay(self):
        setup = SETUP + [("turn", 5, 0, [0, 1]), ("cut", 6, 0, [0, 1, 2, 0, 1, 3]), ("spread", 7, 0, [2, 3])]
        for i in (0, 5, 6, 7):
            self.made(i, [2, 3], [10, 11, 12, 0, 14, 15], setup, "set", i, 0, [1, 0])

    def test_set_again(self):
        found = ask(SETUP + [("set", 0, 1, [0, 0]), ("set", 0, 2, [0, 0]), ("set", 0, 3, [0, 1]), ("cells", 0)])
        self.assertEqual(found[-1], [0, 2, 3, 12, 13, 14, 15])


if __name__ == "__main__":
    unittest.main()
