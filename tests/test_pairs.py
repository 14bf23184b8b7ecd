"""times and same."""

import unittest

from helper import DeskCase, GREATEST, WORD_MOST

SETUP = [
    ("make", 0, [2, 3], [1, 2, 3, -4, -5, -6]),
    ("make", 1, [], [7]),
    ("make", 2, [3], [1, 2, 3]),
    ("make", 3, [3, 2], [1, 0, 2, -1, 3, 5]),
    ("make", 4, [2, 2], [0, 1, 1, 1]),
    ("fill", 5, 1, [1, 2, 2]),
]


class Times(DeskCase):
    def test_ordinary(self):
        self.made(6, [2, 2], [14, 13, -32, -25], SETUP, "times", 6, 0, 3)
        self.made(6, [3, 3], [1, 2, 3, 6, 9, 12, -17, -19, -21], SETUP, "times", 6, 3, 0)
        self.made(6, [2, 2], [1, 1, 1, 2], SETUP, "times", 6, 4, 4)
        self.made(6, [2, 3], [-4, -5, -6, -3, -3, -3], SETUP, "times", 6, 4, 0)

    def test_lengths_of_1(self):
        setup = [("make", 0, [1, 1], [-3]), ("make", 1, [1, 3], [1, 2, 3]), ("make", 2, [3, 1], [4, 5, 6])]
        self.made(6, [1, 1], [9], setup, "times", 6, 0, 0)
        self.made(6, [1, 3], [-3, -6, -9], setup, "times", 6, 0, 1)
        self.made(6, [3, 1], [-12, -15, -18], setup, "times", 6, 2, 0)
        self.made(6, [1, 1], [32], setup, "times", 6, 1, 2)
        self.made(6, [3, 3], [4, 8, 12, 5, 10, 15, 6, 12, 18], setup, "times", 6, 2, 1)

    def test_great_tables(self):
        setup = [("count", 0, 0, 1, [1, 1024]), ("fill", 1, 2, [1024, 1]), ("fill", 2, 3, [32, 32])]
        self.made(6, [1, 1], [1023 * 1024], setup, "times", 6, 0, 1)
        self.made(6, [32, 32], [288] * 1024, setup, "times", 6, 2, 2)

    def test_more_cells_than_may_be(self):
        setup = [("fill", 0, 1, [1024, 1]), ("fill", 1, 1, [1, 2]), ("fill", 2, 1, [1, 1024]), ("fill", 3, 1, [2, 1])]
        for i, j in ((0, 1), (0, 2), (3, 2)):
            self.refused(-6, setup, "times", 6, i, j)
        self.made(6, [2, 2], [1] * 4, setup, "times", 6, 3, 1)
        setup = [("fill", 0, 1, [32, 1]), ("fill", 1, 1, [1, 32]), ("fill", 2, 1, [1, 33])]
        self.made(6, [32, 32], [1] * 1024, setup, "times", 6, 0, 1)
        self.refused(-6, setup, "times", 6, 0, 2)

    def test_other_ranks_and_lengths(self):
        for i, j in ((0, 0), (0, 4), (4, 3), (3, 3), (0, 1), (1, 0), (1, 1), (0, 2), (2, 3), (2, 2), (4, 5), (5, 4),
                     (5, 5)):
            self.refused(-3, SETUP, "times", 6, i, j)
        setup = [("fill", 0, 1, [2, 2, 2, 2]), ("fill", 1, 1, [2, 2]), ("fill", 2, 1, [1, 1]), ("fill", 3, 1, [1])]
        for i, j in ((0, 0), (0, 1), (1, 0), (1, 2), (2, 1), (2, 3), (3, 2)):
            self.refused(-3, setup, "times", 6, i, j)

    def of_row_and_column(self, row, column):
        return [("make", 0, [1, len(row)], row), ("make", 1, [len(column), 1], column)]

    def test_at_the_bounds(self):
        setup = self.of_row_and_column([10 ** 7, 1], [10 ** 8, 0])
        self.made(2, [1, 1], [GREATEST], setup, "times", 2, 0, 1)
        setup = self.of_row_and_column([GREATEST, 1, -1], [-1, 1, 1])
        self.made(2, [1, 1], [-GREATEST], setup, "times", 2, 0, 1)

    def test_beyond_a_cell(self):
        self.refused(-6, self.of_row_and_column([GREATEST, 1], [1, 1]), "times", 2, 0, 1)
        self.refused(-6, self.of_row_and_column([GREATEST, 1], [-1, -1]), "times", 2, 0, 1)

    def test_a_sum_on_the_way_is_beyond(self):
        self.refused(-6, self.of_row_and_column([GREATEST, 1, -1], [1, 1, 1]), "times", 2, 0, 1)
        self.refused(-6, self.of_row_and_column([-GREATEST, 1, 1], [1, -1, 1]), "times", 2, 0, 1)

    def test_a_product_is_beyond(self):
        self.refused(-6, self.of_row_and_column([GREATEST, 0], [2, 0]), "times", 2, 0, 1)
        # With what was there before, the sum would be a cell; the product by itself is none.
        self.refused(-6, self.of_row_and_column([-GREATEST, GREATEST], [1, 2]), "times", 2, 0, 1)
        self.refused(-6, self.of_row_and_column([GREATEST, GREATEST], [GREATEST, -GREATEST]), "times", 2, 0, 1)

    def test_one_cell_without_is_enough(self):
        setup = [("make", 0, [2, 2], [1, 0, 0, 1]), ("make", 1, [2, 2], [1, 2, 3, GREATEST]), ("fill", 2, 1, [2, 2])]
        self.made(3, [2, 2], [1, 2, 3, GREATEST], setup, "times", 3, 0, 1)
        self.refused(-6, setup, "times", 3, 2, 1)
        self.refused(-6, setup, "times", 3, 1, 2)

    def test_into_itself(self):
        self.made(0, [2, 2], [14, 13, -32, -25], SETUP, "times", 0, 0, 3)
        self.made(3, [2, 2], [14, 13, -32, -25], SETUP, "times", 3, 0, 3)
        self.made(4, [2, 2], [1, 1, 1, 2], SETUP, "times", 4, 4, 4)

    def test_refusals_in_order(self):
        self.refused(-1, SETUP, "times", 8, 7, 7)
        self.refused(-1, SETUP, "times", 8, 0, 3)
        self.refused(-1, SETUP, "times", WORD_MOST, 0, 3)
        self.refused(-1, SETUP, "times", 6, 8, 7)
        self.refused(-2, SETUP, "times", 6, 7, 8)
        self.refused(-1, SETUP, "times", 6, 0, 8)
        self.refused(-2, SETUP, "times", 6, 0, 7)
        self.refused(-3, SETUP + [("fill", 6, GREATEST, [1024, 1])], "times", 7, 6, 6)


class Same(DeskCase):
    def test_same(self):
        setup = SETUP + [("make", 6, [2, 3], [1, 2, 3, -4, -5, -6]), ("turn", 7, 3, [1, 0])]
        for i, j in ((0, 0), (0, 6), (6, 0), (1, 1), (5, 5)):
            self.told([1], setup, "same", i, j)
        self.told([0], setup, "same", 0, 7)

    def test_other_cells(self):
        setup = SETUP + [("make", 6, [2, 3], [1, 2, 3, -4, -5, 6]), ("make", 7, [], [-7])]
        for i, j in ((0, 6), (6, 0), (1, 7), (7, 1)):
            self.told([0], setup, "same", i, j)
        setup = [("count", 0, 0, 1, [1024]), ("count", 1, 0, 1, [1024]), ("set", 1, -1, [1023])]
        self.told([0], setup, "same", 0, 1)
        self.told([1], setup + [("set", 1, 1023, [1023])], "same", 1, 0)

    def test_other_lengths(self):
        setup = [("fill", 0, 1, [4]), ("fill", 1, 1, [2, 2]), ("fill", 2, 1, [1, 4]), ("fill", 3, 1, [4, 1]),
                 ("fill", 4, 1, [1]), ("fill", 5, 1, []), ("fill", 6, 1, [5])]
        for i in range(7):
            for j in range(7):
                self.told([int(i == j)], setup, "same", i, j)

    def test_refusals_in_order(self):
        self.refused(-1, SETUP, "same", 8, 7)
        self.refused(-1, SETUP, "same", WORD_MOST, 0)
        self.refused(-2, SETUP, "same", 7, 8)
        self.refused(-2, SETUP, "same", 7, 7)
        self.refused(-1, SETUP, "same", 0, 8)
        self.refused(-2, SETUP, "same", 0, 7)


if __name__ == "__main__":
    unittest.main()
