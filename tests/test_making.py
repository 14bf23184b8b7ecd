"""make, fill, count, drop."""

import unittest

from helper import DeskCase, GREATEST, INT64_LEAST, INT64_MOST, WORD_MOST, ask

NO_SHAPES = [
    [0], [2, 0], [0, 5], [1, 1, 1, 0], [0, 0, 0, 0],
    [1, 1, 1, 1, 1], [2, 2, 2, 2, 1], [1] * 6, [1] * 2000,
    [1025], [5, 205], [2, 2, 2, 129], [1024, 2],
    [WORD_MOST], [WORD_MOST] * 4, [65536] * 4, [WORD_MOST] * 2000, [0, WORD_MOST],
    # products that would be small if they were cut off at 32 or 64 bits
    [65536, 65536], [2 ** 31, 2 ** 31, 4], [2 ** 31, 2, 1], [2 ** 16, 2 ** 16, 2 ** 16, 2 ** 16],
]
FULL_SHAPES = [[1024], [1, 1024], [32, 32], [2, 512], [4, 4, 8, 8], [1, 1, 1, 1024], [1023]]
SETUP = [("make", 0, [2], [5, 6]), ("make", 3, [], [7]), ("count", 7, 1, 1, [2, 2])]


class Make(DeskCase):
    def test_ordinary(self):
        self.made(0, [3], [1, -2, 3], [], "make", 0, [3], [1, -2, 3])
        self.made(7, [2, 3], [1, 2, 3, 4, 5, 6], SETUP, "make", 7, [2, 3], [1, 2, 3, 4, 5, 6])
        self.made(1, [1, 2, 1, 2], [9, 8, 7, 6], SETUP, "make", 1, [1, 2, 1, 2], [9, 8, 7, 6])

    def test_rank_0_has_one_cell(self):
        self.made(2, [], [42], SETUP, "make", 2, [], [42])
        self.refused(-1, SETUP, "make", 2, [], [])
        self.refused(-1, SETUP, "make", 2, [], [1, 2])

    def test_slots(self):
        for k in range(8):
            self.made(k, [2], [k, 1], SETUP, "make", k, [2], [k, 1])
        for k in (8, 9, 256, 2 ** 31, WORD_MOST):
            self.refused(-1, SETUP, "make", k, [2], [1, 2])

    def test_no_shape(self):
        for lengths in NO_SHAPES:
            self.refused(-1, SETUP, "make", 0, lengths, [1])
            self.refused(-1, SETUP, "make", 0, lengths, [])
        self.refused(-1, SETUP, "make", 0, [1025], [0] * 1025)
        self.refused(-1, SETUP, "make", 0, [5, 205], [0] * 1025)
        self.refused(-1, SETUP, "make", 0, [1, 1, 1, 1, 1], [4])
        self.refused(-1, SETUP, "make", 0, [2, 1, 1, 1, 1], [4, 4])

    def test_most_cells(self):
        for lengths in FULL_SHAPES:
            size = 1023 if lengths == [1023] else 1024
            cells = list(range(size))
            self.made(4, lengths, cells, SETUP, "make", 4, lengths, cells)

    def test_not_as_many_cells(self):
        for cells in ([], [1], [1, 2, 3, 4, 5], [1, 2, 3, 4, 5, 6, 7], [0] * 2000):
            self.refused(-1, SETUP, "make", 0, [2, 3], cells)

    def test_cells_bounds(self):
        cells = [GREATEST, -GREATEST, GREATEST - 1, 1 - GREATEST]
        self.made(0, [4], cells, SETUP, "make", 0, [4], cells)
        for beyond in (GREATEST + 1, -GREATEST - 1, INT64_LEAST, INT64_MOST):
            for at in range(3):
                cells = [1, 2, 3]
                cells[at] = beyond
                self.refused(-1, SETUP, "make", 0, [3], cells)
            self.refused(-1, SETUP, "make", 0, [], [beyond])


class Fill(DeskCase):
    def test_ordinary(self):
        self.made(0, [2, 3], [-4] * 6, SETUP, "fill", 0, -4, [2, 3])
        self.made(5, [2, 1, 2, 2], [0] * 8, SETUP, "fill", 5, 0, [2, 1, 2, 2])
        self.made(3, [], [11], SETUP, "fill", 3, 11, [])

    def test_most_cells(self):
        for lengths in FULL_SHAPES:
            size = 1023 if lengths == [1023] else 1024
            self.made(6, lengths, [3] * size, SETUP, "fill", 6, 3, lengths)

    def test_refusals(self):
        for k in (8, WORD_MOST):
            self.refused(-1, SETUP, "fill", k, 1, [2])
        for lengths in NO_SHAPES:
            self.refused(-1, SETUP, "fill", 0, 1, lengths)
        for v in (GREATEST + 1, -GREATEST - 1, INT64_LEAST, INT64_MOST):
            self.refused(-1, SETUP, "fill", 0, v, [2])
            self.refused(-1, SETUP, "fill", 0, v, [])

    def test_bounds(self):
        for v in (GREATEST, -GREATEST):
            self.made(0, [2], [v, v], SETUP, "fill", 0, v, [2])


class Count(DeskCase):
    def test_ordinary(self):
        self.made(0, [2, 3], [10, 13, 16, 19, 22, 25], SETUP, "count", 0, 10, 3, [2, 3])
        self.made(1, [3], [0, -1, -2], SETUP, "count", 1, 0, -1, [3])
        self.made(2, [2, 2], [5, 5, 5, 5], SETUP, "count", 2, 5, 0, [2, 2])
        self.made(3, [1, 2, 2, 1], [-7, -5, -3, -1], SETUP, "count", 3, -7, 2, [1, 2, 2, 1])
        self.made(7, [1024], list(range(1024)), SETUP, "count", 7, 0, 1, [1024])

    def test_one_cell_has_no_step(self):
        for lengths in ([], [1], [1, 1, 1, 1]):
            self.made(0, lengths, [GREATEST], SETUP, "count", 0, GREATEST, GREATEST, lengths)
            self.made(0, lengths, [-GREATEST], SETUP, "count", 0, -GREATEST, -GREATEST, lengths)

    def test_last_cell_just_within(self):
        self.made(0, [3], [GREATEST - 2, GREATEST - 1, GREATEST], SETUP, "count", 0, GREATEST - 2, 1, [3])
        self.made(0, [3], [2 - GREATEST, 1 - GREATEST, -GREATEST], SETUP, "count", 0, 2 - GREATEST, -1, [3])
        self.made(0, [2], [0, GREATEST], SETUP, "count", 0, 0, GREATEST, [2])
        self.made(0, [2], [0, -GREATEST], SETUP, "count", 0, 0, -GREATEST, [2])
        self.made(0, [3], [-GREATEST, 0, GREATEST], SETUP, "count", 0, -GREATEST, GREATEST, [3])
        self.made(0, [3], [GREATEST, 0, -GREATEST], SETUP, "count", 0, GREATEST, -GREATEST, [3])
        step = GREATEST // 1023
        start = GREATEST - 1023 * step
        cells = [start + step * n for n in range(1024)]
        self.made(0, [32, 32], cells, SETUP, "count", 0, start, step, [32, 32])

    def test_last_cell_just_beyond(self):
        self.refused(-6, SETUP, "count", 0, GREATEST - 1, 1, [3])
        self.refused(-6, SETUP, "count", 0, 1 - GREATEST, -1, [3])
        self.refused(-6, SETUP, "count", 0, 1, GREATEST, [2])
        self.refused(-6, SETUP, "count", 0, -1, -GREATEST, [2])
        self.refused(-6, SETUP, "count", 0, GREATEST, 1, [1, 2])
        self.refused(-6, SETUP, "count", 0, 1 - GREATEST, GREATEST, [3])
        self.refused(-6, SETUP, "count", 0, GREATEST, GREATEST, [4, 4, 8, 8])
        step = GREATEST // 1023
        self.refused(-6, SETUP, "count", 0, GREATEST - 1023 * step + 1, step, [1024])

    def test_refusals(self):
        for k in (8, WORD_MOST):
            self.refused(-1, SETUP, "count", k, 0, 1, [2])
            self.refused(-1, SETUP, "count", k, GREATEST, 1, [2])
        for lengths in NO_SHAPES:
            self.refused(-1, SETUP, "count", 0, 1, 1, lengths)
            self.refused(-1, SETUP, "count", 0, GREATEST, GREATEST, lengths)
        for beyond in (GREATEST + 1, -GREATEST - 1, INT64_LEAST, INT64_MOST):
            self.refused(-1, SETUP, "count", 0, beyond, 0, [1])
            self.refused(-1, SETUP, "count", 0, 0, beyond, [1])
            self.refused(-1, SETUP, "count", 0, beyond, 1, [2])
            self.refused(-1, SETUP, "count", 0, 1, beyond, [2])
            self.refused(-1, SETUP, "count", 0, beyond, -beyond // 1024, [2])


class Drop(DeskCase):
    def test_slot_is_empty(self):
        for k in (0, 3, 7):
            found = ask(SETUP + [("drop", k), ("shape", k), ("cells", k)])
            self.assertEqual(found[-3:], [[0], [-2], [-2]])

    def test_other_slots_stay(self):
        found = ask(SETUP + [("drop", 3), ("cells", 0), ("cells", 7)])
        self.assertEqual(found[-2:], [[0, 5, 6], [0, 1, 2, 3, 4]])

    def test_empty_slot_is_dropped_too(self):
        self.assertEqual(ask([("drop", 5), ("drop", 5), ("shape", 5)]), [[0], [0], [-2]])

    def test_made_anew(self):
        found = ask(SETUP + [("drop", 0), ("make", 0, [1], [8]), ("cells", 0)])
        self.assertEqual(found[-1], [0, 8])

    def test_refusals(self):
        for k in (8, 15, WORD_MOST):
            self.refused(-1, SETUP, "drop", k)


if __name__ == "__main__":
    unittest.main()
