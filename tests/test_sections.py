"""spread, cut, put."""

import unittest

from helper import DeskCase, INT64_LEAST, INT64_MOST, WORD_MOST

SETUP = [
    ("count", 0, 10, 1, [2, 3]),
    ("make", 1, [], [77]),
    ("make", 2, [3], [1, 2, 3]),
    ("make", 3, [2, 1], [4, 5]),
    ("count", 4, 0, 1, [2, 3, 2, 2]),
    ("count", 5, 0, 1, [1024]),
]


class Spread(DeskCase):
    def test_ordinary(self):
        self.made(6, [2, 3], [1, 2, 3, 1, 2, 3], SETUP, "spread", 6, 2, [2, 3])
        self.made(6, [2, 3], [4, 4, 4, 5, 5, 5], SETUP, "spread", 6, 3, [2, 3])
        self.made(6, [2, 2, 2], [4, 4, 5, 5, 4, 4, 5, 5], SETUP, "spread", 6, 3, [2, 2, 2])
        self.made(6, [2, 3], [10, 11, 12, 13, 14, 15], SETUP, "spread", 6, 0, [2, 3])
        self.made(6, [2, 1, 1, 3], [1, 2, 3] * 2, SETUP, "spread", 6, 2, [2, 1, 1, 3])

    def test_rank_0(self):
        self.made(6, [], [77], SETUP, "spread", 6, 1, [])
        self.made(6, [2, 2, 1, 2], [77] * 8, SETUP, "spread", 6, 1, [2, 2, 1, 2])
        self.made(6, [1024], [77] * 1024, SETUP, "spread", 6, 1, [1024])

    def test_into_itself(self):
        self.made(2, [2, 3], [1, 2, 3, 1, 2, 3], SETUP, "spread", 2, 2, [2, 3])
        self.made(1, [2], [77, 77], SETUP, "spread", 1, 1, [2])

    def test_does_not_spread(self):
        for i, lengths in (
            (0, []), (0, [3]), (0, [2]), (0, [1, 3]), (0, [3, 3]), (0, [2, 6]), (0, [4, 3]), (0, [3, 2]),
            (0, [2, 3, 1]), (2, []), (2, [1]), (2, [3, 1]), (2, [3, 2]), (2, [6]), (3, [2]), (3, [1, 3]),
            (3, [2, 1, 4]), (4, [3, 2, 2]), (4, [1]), (4, [2, 3, 2, 1]), (5, [1, 512]),
        ):
            self.refused(-3, SETUP, "spread", 6, i, lengths)

    def test_no_shape(self):
        for lengths in ([0], [3, 0], [1, 1, 1, 1, 3], [1025], [342, 3], [WORD_MOST, 3], [WORD_MOST] * 4, [1] * 2000,
                        [2 ** 31, 2 ** 31, 4, 3], [65536, 65536]):
            self.refused(-1, SETUP, "spread", 6, 2, lengths)
        self.made(6, [341, 3], [1, 2, 3] * 341, SETUP, "spread", 6, 2, [341, 3])

    def test_refusals_in_order(self):
        self.refused(-1, SETUP, "spread", 8, 7, [2, 3])
        self.refused(-1, SETUP, "spread", 8, 2, [2, 3])
        self.refused(-1, SETUP, "spread", 6, 8, [2, 3])
        self.refused(-1, SETUP, "spread", 6, WORD_MOST, [0])
        self.refused(-2, SETUP, "spread", 6, 7, [0])
        self.refused(-2, SETUP, "spread", 6, 7, [2, 3])
        self.refused(-1, SETUP, "spread", 6, 0, [0])
        self.refused(-1, SETUP, "spread", 6, 0, [2, 0])


class Cut(DeskCase):
    def test_ordinary(self):
        self.made(6, [1, 2], [14, 15], SETUP, "cut", 6, 0, [1, 1, 1, 1, 1, 2])
        self.made(6, [2, 3], [15, 14, 13, 12, 11, 10], SETUP, "cut", 6, 0, [1, -1, 2, 2, -1, 3])
        self.made(6, [2, 2], [10, 12, 13, 15], SETUP, "cut", 6, 0, [0, 1, 2, 0, 2, 2])
        self.made(6, [1, 1, 2, 1], [12 + 2 * 4 + 1, 12 + 2 * 4 + 3],
                  SETUP, "cut", 6, 4, [1, 5, 1, 2, -9, 1, 0, 1, 2, 1, 1, 1])

    def test_rank_0(self):
        self.made(6, [], [77], SETUP, "cut", 6, 1, [])
        self.refused(-1, SETUP, "cut", 6, 1, [0, 1, 1])
        self.refused(-1, SETUP, "cut", 6, 1, [0])

    def test_step_0(self):
        self.made(6, [4], [2, 2, 2, 2], SETUP, "cut", 6, 2, [1, 0, 4])
        self.made(6, [1024], [3] * 1024, SETUP, "cut", 6, 2, [2, 0, 1024])
        self.made(6, [3, 2], [15, 15, 15, 15, 15, 15], SETUP, "cut", 6, 0, [1, 0, 3, 2, 0, 2])

    def test_step_below_0(self):
        self.made(6, [2], [3, 1], SETUP, "cut", 6, 2, [2, -2, 2])
        self.made(6, [1024], list(range(1023, -1, -1)), SETUP, "cut", 6, 5, [1023, -1, 1024])

    def test_counts(self):
        self.made(6, [1], [3], SETUP, "cut", 6, 2, [2, 1, 1])
        self.made(6, [1024], list(range(1024)), SETUP, "cut", 6, 5, [0, 1, 1024])
        for count in (0, 1025, -1, -1024, 1 << 32, (1 << 32) + 1, INT64_LEAST, INT64_MOST):
            self.refused(-1, SETUP, "cut", 6, 2, [0, 0, count])
            self.refused(-1, SETUP, "cut", 6, 0, [0, 0, count, 0, 0, 1])
            self.refused(-1, SETUP, "cut", 6, 0, [0, 0, 1, 0, 0, count])

    def test_not_as_many(self):
        whole = [0, 1, 2, 0, 1, 3, 0, 1, 1]
        for size in (0, 1, 2, 3, 4, 5, 7, 8, 9):
            self.refused(-1, SETUP, "cut", 6, 0, whole[:size])
        self.refused(-1, SETUP, "cut", 6, 2, [0, 0, 1] * 666)
        self.refused(-1, SETUP, "cut", 6, 2, [1] * 2000)
        self.refused(-1, SETUP, "cut", 6, 4, [0, 0, 1] * 3)
        self.refused(-1, SETUP, "cut", 6, 4, [0, 0, 1] * 5)

    def test_no_such_place(self):
        for cuts in ([3, 1, 1], [-1, 1, 1], [3, 0, 1], [0, 1, 4], [1, 1, 3], [2, -1, 4], [0, 2, 3], [0, -1, 2],
                     [3, -1, 2], [-1, 1, 2], [-3, 1, 1]):
            self.refused(-4, SETUP, "cut", 6, 2, cuts)
        for cuts in ([2, 1, 1, 0, 1, 1], [0, 1, 1, 3, 1, 1], [0, 2, 2, 0, 1, 1], [0, 1, 1, 0, 3, 2]):
            self.refused(-4, SETUP, "cut", 6, 0, cuts)
        self.refused(-4, SETUP, "cut", 6, 5, [1, 1, 1024])
        self.refused(-4, SETUP, "cut", 6, 5, [1022, -1, 1024])

    def test_numbers_of_any_size(self):
        for great in (INT64_MOST, INT64_LEAST, 1 << 32, -(1 << 32), 1 << 62):
            self.made(6, [1], [2], SETUP, "cut", 6, 2, [1, great, 1])
            self.refused(-4, SETUP, "cut", 6, 2, [1, great, 2])
            self.refused(-4, SETUP, "cut", 6, 2, [1, great, 1024])
            self.refused(-4, SETUP, "cut", 6, 2, [great, 0, 1])
            self.refused(-4, SETUP, "cut", 6, 2, [great, 0, 3])
        # last places that would lie within if they were cut off at 64 bits
        self.refused(-4, SETUP, "cut", 6, 2, [0, 1 << 62, 5])
        self.refused(-4, SETUP, "cut", 6, 2, [1, INT64_LEAST, 3])
        self.refused(-4, SETUP, "cut", 6, 2, [INT64_LEAST, INT64_LEAST, 2])

    def test_too_many_cells(self):
        self.refused(-6, SETUP, "cut", 6, 0, [0, 0, 1024, 0, 0, 2])
        self.refused(-6, SETUP, "cut", 6, 0, [0, 0, 41, 0, 0, 25])
        self.refused(-6, SETUP, "cut", 6, 4, [0, 0, 1024] * 4)
        self.made(6, [32, 32], [10] * 1024, SETUP, "cut", 6, 0, [0, 0, 32, 0, 0, 32])
        self.made(6, [4, 8, 4, 8], [0] * 1024, SETUP, "cut", 6, 4, [0, 0, 4, 0, 0, 8, 0, 0, 4, 0, 0, 8])

    def test_into_itself(self):
        self.made(0, [2, 2], [15, 14, 12, 11], SETUP, "cut", 0, 0, [1, -1, 2, 2, -1, 2])
        self.made(1, [], [77], SETUP, "cut", 1, 1, [])

    def test_refusals_in_order(self):
        self.refused(-1, SETUP, "cut", 8, 7, [])
        self.refused(-1, SETUP, "cut", WORD_MOST, 2, [0, 1, 1])
        self.refused(-1, SETUP, "cut", 6, 8, [0, 1, 1])
        self.refused(-2, SETUP, "cut", 6, 7, [0, 1, 1])
        self.refused(-2, SETUP, "cut", 6, 7, [0])
        self.refused(-1, SETUP, "cut", 6, 2, [9, 9, 0])
        self.refused(-1, SETUP, "cut", 6, 0, [9, 9, 1024, 9, 9, 1025])
        self.refused(-6, SETUP, "cut", 6, 0, [9, 9, 1024, 9, 9, 1024])
        self.refused(-6, SETUP, "cut", 6, 0, [-1, 0, 513, 0, 0, 2])


class Put(DeskCase):
    def test_ordinary(self):
        setup = SETUP + [("make", 6, [2, 2], [1, 2, 3, 4]), ("make", 7, [1, 3], [7, 8, 9])]
        self.made(0, [2, 3], [10, 1, 2, 13, 3, 4], setup, "put", 0, 6, [0, 1, 2, 1, 1, 2])
        self.made(0, [2, 3], [4, 11, 3, 2, 14, 1], setup, "put", 0, 6, [1, -1, 2, 2, -2, 2])
        self.made(0, [2, 3], [10, 11, 12, 7, 8, 9], setup, "put", 0, 7, [1, 0, 1, 0, 1, 3])
        self.made(2, [3], [3, 2, 1], SETUP + [("make", 6, [3], [1, 2, 3])], "put", 2, 6, [2, -1, 3])

    def test_rank_4(self):
        setup = SETUP + [("make", 6, [1, 2, 1, 2], [90, 91, 92, 93])]
        cells = list(range(24))
        for value, place in ((90, (1, 2, 0, 0)), (91, (1, 2, 0, 1)), (92, (1, 0, 0, 0)), (93, (1, 0, 0, 1))):
            cells[12 * place[0] + 4 * place[1] + 2 * place[2] + place[3]] = value
        self.made(4, [2, 3, 2, 2], cells, setup, "put", 4, 6, [1, 1, 1, 2, -2, 2, 0, 1, 1, 0, 1, 2])

    def test_rank_0(self):
        setup = SETUP + [("make", 6, [], [-5]), ("make", 7, [1], [3])]
        self.made(1, [], [-5], setup, "put", 1, 6, [])
        self.made(1, [], [77], setup, "put", 1, 1, [])
        self.refused(-3, setup, "put", 1, 7, [])
        self.refused(-1, setup, "put", 1, 6, [0, 1, 1])
        self.refused(-1, setup, "put", 2, 6, [])

    def test_a_place_twice_keeps_the_last(self):
        setup = SETUP + [("make", 6, [2, 2], [1, 2, 3, 4])]
        self.made(2, [3], [1, 3, 3], SETUP + [("make", 6, [3], [1, 2, 3])], "put", 2, 6, [1, 0, 3])
        self.made(0, [2, 3], [10, 11, 12, 13, 4, 15], setup, "put", 0, 6, [1, 0, 2, 1, 0, 2])
        self.made(0, [2, 3], [3, 4, 12, 13, 14, 15], setup, "put", 0, 6, [0, 0, 2, 0, 1, 2])
        self.made(0, [2, 3], [2, 11, 12, 4, 14, 15], setup, "put", 0, 6, [0, 1, 2, 0, 0, 2])

    def test_into_itself(self):
        self.made(2, [3], [3, 2, 1], SETUP, "put", 2, 2, [2, -1, 3])
        self.made(2, [3], [1, 2, 3], SETUP, "put", 2, 2, [0, 1, 3])
        self.made(2, [3], [1, 3, 3], SETUP, "put", 2, 2, [1, 0, 3])
        self.made(0, [2, 3], [15, 14, 13, 12, 11, 10], SETUP, "put", 0, 0, [1, -1, 2, 2, -1, 3])
        self.made(5, [1024], list(range(1023, -1, -1)), SETUP, "put", 5, 5, [1023, -1, 1024])
        self.refused(-3, SETUP, "put", 2, 2, [0, 1, 2])

    def test_other_lengths(self):
        setup = SETUP + [("make", 6, [2, 2], [1, 2, 3, 4]), ("make", 7, [1, 3], [7, 8, 9])]
        self.refused(-3, setup, "put", 0, 6, [0, 1, 2, 0, 1, 3])
        self.refused(-3, setup, "put", 0, 6, [0, 1, 1, 0, 1, 2])
        self.refused(-3, setup, "put", 0, 6, [0, 0, 4, 0, 0, 1])
        self.refused(-3, setup, "put", 0, 2, [0, 1, 1, 0, 1, 3])
        self.refused(-3, setup, "put", 2, 7, [0, 1, 3])
        self.refused(-3, setup, "put", 0, 1, [0, 1, 1, 0, 1, 1])
        self.refused(-3, setup, "put", 0, 3, [0, 1, 1, 0, 1, 2])

    def test_a_section_of_too_many_cells_is_no_slots_shape(self):
        self.refused(-3, SETUP, "put", 0, 0, [0, 0, 1024, 0, 0, 1024])
        self.refused(-3, SETUP, "put", 4, 4, [0, 0, 1024] * 4)
        self.refused(-4, SETUP, "put", 0, 0, [0, 0, 1024, 0, 1, 1024])

    def test_not_as_many_or_counts(self):
        for cuts in ([], [0], [0, 1], [0, 1, 3, 0], [0, 1, 3, 0, 1], [0, 1, 1, 0, 1, 1], [0, 0, 1] * 666, [1] * 2000):
            self.refused(-1, SETUP, "put", 2, 2, cuts)
        for count in (0, -1, 1025, INT64_LEAST, INT64_MOST):
            self.refused(-1, SETUP, "put", 2, 2, [0, 0, count])
            self.refused(-1, SETUP, "put", 2, 2, [9, 9, count])

    def test_no_such_place(self):
        for cuts in ([1, 1, 3], [-1, 1, 3], [3, 0, 3], [1, -1, 3], [0, INT64_MOST, 3], [INT64_LEAST, 1, 3],
                     [0, 1 << 62, 3], [3, -1, 3]):
            self.refused(-4, SETUP, "put", 2, 2, cuts)
        self.made(2, [3], [1, 9, 3], SETUP + [("make", 6, [1], [9])], "put", 2, 6, [1, INT64_LEAST, 1])

    def test_refusals_in_order(self):
        self.refused(-1, SETUP, "put", 8, 7, [0, 1, 3])
        self.refused(-1, SETUP, "put", WORD_MOST, 2, [0, 1, 3])
        self.refused(-2, SETUP, "put", 7, 8, [0, 1, 3])
        self.refused(-1, SETUP, "put", 2, 8, [0, 1, 3])
        self.refused(-2, SETUP, "put", 2, 7, [0])
        self.refused(-1, SETUP, "put", 2, 0, [9, 9, 0])
        self.refused(-4, SETUP, "put", 2, 0, [9, 9, 3])
        self.refused(-3, SETUP, "put", 2, 0, [0, 1, 3])


if __name__ == "__main__":
    unittest.main()
