"""turn, join, roll and repeat."""

import unittest

from helper import DeskCase, INT64_LEAST, INT64_MOST, WORD_MOST

SETUP = [
    ("count", 0, 10, 1, [2, 3]),
    ("make", 1, [], [77]),
    ("make", 2, [3], [1, 2, 3]),
    ("make", 3, [1, 3], [7, 8, 9]),
    ("count", 4, 0, 1, [2, 3, 1, 2]),
    ("count", 5, 0, 1, [1024]),
]


class Turn(DeskCase):
    def test_ordinary(self):
        self.made(6, [3, 2], [10, 13, 11, 14, 12, 15], SETUP, "turn", 6, 0, [1, 0])
        self.made(6, [2, 3], [10, 11, 12, 13, 14, 15], SETUP, "turn", 6, 0, [0, 1])
        self.made(6, [3], [1, 2, 3], SETUP, "turn", 6, 2, [0])
        self.made(6, [3, 1], [7, 8, 9], SETUP, "turn", 6, 3, [1, 0])

    def test_axes_name_the_axes_that_are_turned(self):
        # Of rank 3 a turn and its way back differ, so the direction shows.
        setup = SETUP + [("count", 6, 0, 1, [2, 3, 4])]
        cells = [12 * a + 4 * b + c for c in range(4) for a in range(2) for b in range(3)]
        self.made(7, [4, 2, 3], cells, setup, "turn", 7, 6, [2, 0, 1])
        cells = [12 * a + 4 * b + c for b in range(3) for c in range(4) for a in range(2)]
        self.made(7, [3, 4, 2], cells, setup, "turn", 7, 6, [1, 2, 0])

    def test_rank_4(self):
        cells = [6 * a + 2 * b + d for d in range(2) for b in range(3) for a in range(2)]
        self.made(6, [2, 3, 2, 1], cells, SETUP, "turn", 6, 4, [3, 1, 0, 2])

    def test_rank_0(self):
        self.made(6, [], [77], SETUP, "turn", 6, 1, [])
        self.refused(-1, SETUP, "turn", 6, 1, [0])

    def test_into_itself(self):
        self.made(0, [3, 2], [10, 13, 11, 14, 12, 15], SETUP, "turn", 0, 0, [1, 0])

    def test_not_all_axes_once(self):
        for axes in ([], [0], [1], [0, 0], [1, 1], [0, 2], [1, 2], [0, 1, 2], [0, 1, 0], [0, 1, 1], [2, 1, 0],
                     [0, WORD_MOST], [WORD_MOST, 0], [0, 1] * 1000):
            self.refused(-1, SETUP, "turn", 6, 0, axes)
        for axes in ([0, 1, 2], [0, 1, 2, 2], [0, 1, 2, 4], [3, 2, 1, 1], [4, 3, 2, 1], [0, 1, 2, 3, 4]):
            self.refused(-1, SETUP, "turn", 6, 4, axes)

    def test_refusals_in_order(self):
        self.refused(-1, SETUP, "turn", 8, 7, [0])
        self.refused(-1, SETUP, "turn", 8, 2, [0])
        self.refused(-1, SETUP, "turn", 6, 8, [0])
        self.refused(-1, SETUP, "turn", 6, WORD_MOST, [])
        self.refused(-2, SETUP, "turn", 6, 7, [0])
        self.refused(-2, SETUP, "turn", 6, 7, [5, 5])


class Join(DeskCase):
    def test_ordinary(self):
        self.made(6, [3, 3], [10, 11, 12, 13, 14, 15, 7, 8, 9], SETUP, "join", 6, 0, 0, 3)
        self.made(6, [3, 3], [7, 8, 9, 10, 11, 12, 13, 14, 15], SETUP, "join", 6, 0, 3, 0)
        self.made(6, [6], [1, 2, 3, 1, 2, 3], SETUP, "join", 6, 0, 2, 2)
        setup = SETUP + [("make", 7, [2, 1], [-1, -2])]
        self.made(6, [2, 4], [10, 11, 12, -1, 13, 14, 15, -2], setup, "join", 6, 1, 0, 7)
        self.made(6, [2, 4], [-1, 10, 11, 12, -2, 13, 14, 15], setup, "join", 6, 1, 7, 0)
        self.made(6, [2, 6], [10, 11, 12] * 2 + [13, 14, 15] * 2, SETUP, "join", 6, 1, 0, 0)

    def test_rank_4(self):
        setup = SETUP + [("count", 6, 100, 1, [2, 3, 2, 2])]
        cells = []
        for a in range(2):
            for b in range(3):
                cells += [6 * a + 2 * b + d for d in range(2)]
                cells += [100 + 12 * a + 4 * b + n for n in range(4)]
        self.made(7, [2, 3, 3, 2], cells, setup, "join", 7, 2, 4, 6)

    def test_rank_0_has_no_axis(self):
        self.refused(-1, SETUP, "join", 6, 0, 1, 1)
        self.refused(-1, SETUP, "join", 6, 0, 1, 2)
        self.refused(-3, SETUP, "join", 6, 0, 2, 1)

    def test_no_such_axis(self):
        for axis in (2, 3, 4, WORD_MOST):
            self.refused(-1, SETUP, "join", 6, axis, 0, 3)
            self.refused(-1, SETUP, "join", 6, axis, 0, 4)
        for axis in (4, 5):
            self.refused(-1, SETUP, "join", 6, axis, 4, 4)

    def test_the_axis_is_one_of_i(self):
        self.refused(-1, SETUP, "join", 6, 1, 2, 0)
        self.refused(-3, SETUP, "join", 6, 1, 0, 2)

    def test_other_ranks_and_lengths(self):
        self.refused(-3, SETUP, "join", 6, 0, 0, 2)
        self.refused(-3, SETUP, "join", 6, 0, 2, 3)
        self.refused(-3, SETUP, "join", 6, 0, 3, 2)
        self.refused(-3, SETUP, "join", 6, 1, 0, 3)
        self.refused(-3, SETUP, "join", 6, 1, 3, 0)
        self.refused(-3, SETUP, "join", 6, 0, 4, 0)
        setup = SETUP + [("count", 6, 0, 1, [2, 3, 1, 3]), ("count", 7, 0, 1, [1, 3, 1, 2])]
        for axis in range(3):
            self.refused(-3, setup, "join", 6, axis, 4, 6)
            self.refused(-3, setup, "join", 6, axis + 1, 4, 7)
        self.made(6, [2, 3, 1, 5], [0, 1, 0, 1, 2, 2, 3, 3, 4, 5, 4, 5, 6, 7, 8, 6, 7, 9, 10, 11, 8, 9, 12, 13, 14,
                                    10, 11, 15, 16, 17], setup, "join", 6, 3, 4, 6)

    def test_too_many_cells(self):
        setup = SETUP + [("make", 6, [1], [5]), ("count", 7, 0, 1, [1023])]
        self.refused(-6, setup, "join", 0, 0, 5, 6)
        self.refused(-6, setup, "join", 0, 0, 6, 5)
        self.refused(-6, setup, "join", 0, 0, 5, 5)
        self.made(0, [1024], list(range(1023)) + [5], setup, "join", 0, 0, 7, 6)
        self.made(0, [1024], [5] + list(range(1023)), setup, "join", 0, 0, 6, 7)
        setup = SETUP + [("fill", 6, 1, [32, 31]), ("fill", 7, 2, [32, 1])]
        self.made(0, [32, 32], ([1] * 31 + [2]) * 32, setup, "join", 0, 1, 6, 7)
        self.refused(-6, setup, "join", 0, 1, 6, 6)

    def test_into_itself(self):
        self.made(0, [3, 3], [10, 11, 12, 13, 14, 15, 7, 8, 9], SETUP, "join", 0, 0, 0, 3)
        self.made(3, [3, 3], [10, 11, 12, 13, 14, 15, 7, 8, 9], SETUP, "join", 3, 0, 0, 3)
        self.made(2, [6], [1, 2, 3, 1, 2, 3], SETUP, "join", 2, 0, 2, 2)

    def test_refusals_in_order(self):
        self.refused(-1, SETUP, "join", 8, 0, 7, 7)
        self.refused(-1, SETUP, "join", 8, 0, 0, 3)
        self.refused(-1, SETUP, "join", 6, 0, 8, 7)
        self.refused(-2, SETUP, "join", 6, 0, 7, 8)
        self.refused(-1, SETUP, "join", 6, 0, 0, 8)
        self.refused(-1, SETUP, "join", 6, 0, 0, WORD_MOST)
        self.refused(-2, SETUP, "join", 6, 9, 0, 7)
        self.refused(-2, SETUP, "join", 6, 9, 7, 0)
        self.refused(-1, SETUP, "join", 6, 1, 5, 0)
        self.refused(-3, SETUP, "join", 6, 0, 5, 0)
        self.refused(-3, SETUP + [("fill", 6, 0, [2, 512])], "join", 6, 0, 6, 0)


class Roll(DeskCase):
    def test_ordinary(self):
        self.made(6, [3], [3, 1, 2], SETUP, "roll", 6, 0, 1, 2)
        self.made(6, [3], [2, 3, 1], SETUP, "roll", 6, 0, 2, 2)
        self.made(6, [3], [2, 3, 1], SETUP, "roll", 6, 0, -1, 2)
        self.made(6, [2, 3], [13, 14, 15, 10, 11, 12], SETUP, "roll", 6, 0, 1, 0)
        self.made(6, [2, 3], [12, 10, 11, 15, 13, 14], SETUP, "roll", 6, 1, 1, 0)
        self.made(6, [1, 3], [7, 8, 9], SETUP, "roll", 6, 0, 1, 3)

    def test_by_0_and_whole_turns(self):
        for by in (0, 3, -3, 6, -30, 3 * 10 ** 17):
            self.made(6, [3], [1, 2, 3], SETUP, "roll", 6, 0, by, 2)

    def test_by_any_size(self):
        # 2^63 is 2 more than a number of threes.
        self.made(6, [3], [3, 1, 2], SETUP, "roll", 6, 0, INT64_MOST, 2)
        self.made(6, [3], [3, 1, 2], SETUP, "roll", 6, 0, INT64_LEAST, 2)
        self.made(6, [3], [2, 3, 1], SETUP, "roll", 6, 0, INT64_LEAST + 1, 2)
        self.made(6, [1024], list(range(1, 1024)) + [0], SETUP, "roll", 6, 0, INT64_MOST, 5)
        self.made(6, [1024], list(range(1024)), SETUP, "roll", 6, 0, INT64_LEAST, 5)

    def test_rank_4(self):
        cells = [6 * a + 2 * b + d for a in (0, 1) for b in (2, 0, 1) for d in (0, 1)]
        self.made(6, [2, 3, 1, 2], cells, SETUP, "roll", 6, 1, 1, 4)
        cells = [6 * a + 2 * b + d for a in (0, 1) for b in (0, 1, 2) for d in (1, 0)]
        self.made(6, [2, 3, 1, 2], cells, SETUP, "roll", 6, 3, -1, 4)
        self.made(6, [2, 3, 1, 2], list(range(12)), SETUP, "roll", 6, 2, 1, 4)

    def test_into_itself(self):
        self.made(0, [2, 3], [12, 10, 11, 15, 13, 14], SETUP, "roll", 0, 1, 1, 0)

    def test_no_such_axis(self):
        for axis, i in ((0, 1), (1, 2), (2, 0), (4, 4), (5, 4), (WORD_MOST, 4)):
            self.refused(-1, SETUP, "roll", 6, axis, 1, i)

    def test_refusals_in_order(self):
        self.refused(-1, SETUP, "roll", 8, 0, 1, 7)
        self.refused(-1, SETUP, "roll", WORD_MOST, 0, 1, 0)
        self.refused(-1, SETUP, "roll", 6, 0, 1, 8)
        self.refused(-1, SETUP, "roll", 6, 0, 1, WORD_MOST)
        self.refused(-2, SETUP, "roll", 6, 0, 1, 7)
        self.refused(-2, SETUP, "roll", 6, 9, 1, 7)


class Repeat(DeskCase):
    def test_ordinary(self):
        self.made(6, [6], [1, 2, 3, 1, 2, 3], SETUP, "repeat", 6, 0, 2, 2)
        self.made(6, [3], [1, 2, 3], SETUP, "repeat", 6, 0, 1, 2)
        self.made(6, [4, 3], [10, 11, 12, 13, 14, 15] * 2, SETUP, "repeat", 6, 0, 2, 0)
        self.made(6, [2, 9], [10, 11, 12] * 3 + [13, 14, 15] * 3, SETUP, "repeat", 6, 1, 3, 0)
        self.made(6, [5, 3], [7, 8, 9] * 5, SETUP, "repeat", 6, 0, 5, 3)

    def test_rank_4(self):
        cells = [6 * a + 2 * b + d for a in (0, 1) for b in (0, 1, 2) for turn in (0, 1) for d in (0, 1)]
        self.made(6, [2, 3, 2, 2], cells, SETUP, "repeat", 6, 2, 2, 4)
        cells = [6 * a + 2 * b + d for a in (0, 1) for b in (0, 1, 2, 0, 1, 2) for d in (0, 1)]
        self.made(6, [2, 6, 1, 2], cells, SETUP, "repeat", 6, 1, 2, 4)

    def test_times(self):
        setup = SETUP + [("make", 6, [1], [5])]
        self.made(7, [1024], [5] * 1024, setup, "repeat", 7, 0, 1024, 6)
        for times in (0, 1025, WORD_MOST):
            self.refused(-1, setup, "repeat", 7, 0, times, 6)
            self.refused(-1, setup, "repeat", 7, 0, times, 5)

    def test_too_many_cells(self):
        self.made(6, [1023], [1, 2, 3] * 341, SETUP, "repeat", 6, 0, 341, 2)
        self.refused(-6, SETUP, "repeat", 6, 0, 342, 2)
        self.refused(-6, SETUP, "repeat", 6, 0, 1024, 2)
        self.refused(-6, SETUP, "repeat", 6, 0, 2, 5)
        self.made(6, [340, 3], [10, 11, 12, 13, 14, 15] * 170, SETUP, "repeat", 6, 0, 170, 0)
        self.refused(-6, SETUP, "repeat", 6, 0, 171, 0)
        self.refused(-6, SETUP, "repeat", 6, 1, 171, 0)

    def test_into_itself(self):
        self.made(2, [6], [1, 2, 3, 1, 2, 3], SETUP, "repeat", 2, 0, 2, 2)

    def test_no_such_axis(self):
        for axis, i in ((0, 1), (1, 2), (2, 0), (4, 4), (WORD_MOST, 4)):
            self.refused(-1, SETUP, "repeat", 6, axis, 1, i)
            # Of an axis that isn't there no array could be too great.
            self.refused(-1, SETUP, "repeat", 6, axis, 1024, i)

    def test_refusals_in_order(self):
        self.refused(-1, SETUP, "repeat", 8, 0, 1, 7)
        self.refused(-1, SETUP, "repeat", 8, 0, 1, 2)
        self.refused(-1, SETUP, "repeat", 6, 0, 1, 8)
        self.refused(-2, SETUP, "repeat", 6, 0, 1, 7)
        self.refused(-2, SETUP, "repeat", 6, 9, 0, 7)


if __name__ == "__main__":
    unittest.main()
