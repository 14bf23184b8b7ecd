"""both, fold and scan."""

import unittest

from helper import DeskCase, GREATEST, WORD_MOST

SETUP = [
    ("make", 0, [2, 3], [1, -2, 3, -4, 5, -6]),
    ("make", 1, [], [7]),
    ("make", 2, [3], [10, 20, 30]),
    ("make", 3, [2, 1], [-1, 2]),
    ("count", 4, 1, 1, [2, 1, 2, 2]),
    ("count", 5, 0, 1, [1024]),
]


class Ops(DeskCase):
    def is_op(self, op, x, y, value):
        self.made(2, [], [value], [("make", 0, [], [x]), ("make", 1, [], [y])], "both", 2, op, 0, 1)

    def has_none(self, op, x, y):
        self.refused(-6, [("make", 0, [], [x]), ("make", 1, [], [y]), ("make", 2, [], [3])], "both", 2, op, 0, 1)

    def test_sum(self):
        self.is_op(0, 2, 3, 5)
        self.is_op(0, -2, -3, -5)
        self.is_op(0, 2, -3, -1)
        self.is_op(0, GREATEST - 1, 1, GREATEST)
        self.is_op(0, 1 - GREATEST, -1, -GREATEST)
        self.is_op(0, GREATEST, -GREATEST, 0)
        self.has_none(0, GREATEST, 1)
        self.has_none(0, 1, GREATEST)
        self.has_none(0, -GREATEST, -1)
        self.has_none(0, GREATEST, GREATEST)

    def test_difference(self):
        self.is_op(1, 2, 3, -1)
        self.is_op(1, 3, 2, 1)
        self.is_op(1, -2, -3, 1)
        self.is_op(1, 0, GREATEST, -GREATEST)
        self.is_op(1, GREATEST, GREATEST, 0)
        self.is_op(1, GREATEST - 1, -1, GREATEST)
        self.has_none(1, GREATEST, -1)
        self.has_none(1, -GREATEST, 1)
        self.has_none(1, -1, GREATEST)
        self.has_none(1, -GREATEST, GREATEST)

    def test_product(self):
        self.is_op(2, 2, 3, 6)
        self.is_op(2, -2, 3, -6)
        self.is_op(2, -2, -3, 6)
        self.is_op(2, 0, -GREATEST, 0)
        self.is_op(2, GREATEST, -1, -GREATEST)
        self.is_op(2, 10 ** 7, 10 ** 8, GREATEST)
        self.is_op(2, -(10 ** 7), 10 ** 8, -GREATEST)
        self.has_none(2, GREATEST, 2)
        self.has_none(2, GREATEST, GREATEST)
        self.has_none(2, GREATEST, -GREATEST)
        # One beyond the greatest cell.
        self.has_none(2, 11, 90909090909091)
        self.has_none(2, -11, 90909090909091)

    def test_least_and_most(self):
        for x, y in ((2, 3), (-3, 2), (-3, -2), (0, 0), (-GREATEST, GREATEST)):
            self.is_op(3, x, y, x)
            self.is_op(3, y, x, x)
            self.is_op(4, x, y, y)
            self.is_op(4, y, x, y)

    def test_quotient_rounded_down_and_rest(self):
        for x, y, quotient, rest in (
            (7, 2, 3, 1), (-7, 2, -4, 1), (7, -2, -4, -1), (-7, -2, 3, -1), (6, 2, 3, 0), (-6, 2, -3, 0),
            (6, -2, -3, 0), (-6, -2, 3, 0), (0, 5, 0, 0), (0, -5, 0, 0),
            (1, GREATEST, 0, 1), (-1, GREATEST, -1, GREATEST - 1), (1, -GREATEST, -1, 1 - GREATEST),
            (-1, -GREATEST, 0, -1), (GREATEST, 1, GREATEST, 0), (GREATEST, -1, -GREATEST, 0),
            (-GREATEST, -1, GREATEST, 0), (-GREATEST, 1, -GREATEST, 0),
            (GREATEST, GREATEST, 1, 0), (-GREATEST, GREATEST, -1, 0), (GREATEST - 1, -GREATEST, -1, -1),
            (GREATEST, 3, 333333333333333, 1), (-GREATEST, 3, -333333333333334, 2),
        ):
            self.is_op(5, x, y, quotient)
            self.is_op(6, x, y, rest)

    def test_by_0(self):
        for x in (0, 1, -1, GREATEST, -GREATEST):
            self.has_none(5, x, 0)
            self.has_none(6, x, 0)
            # The other ops have no fear of it.
            for op, value in ((0, x), (1, x), (2, 0), (3, min(x, 0)), (4, max(x, 0))):
                self.is_op(op, x, 0, value)
            self.is_op(7, x, 0, int(x < 0))
            self.is_op(8, x, 0, int(x == 0))

    def test_below_and_same(self):
        for x, y in ((2, 3), (-3, 2), (-3, -2), (-1, 0), (-GREATEST, GREATEST), (GREATEST - 1, GREATEST)):
            self.is_op(7, x, y, 1)
            self.is_op(7, y, x, 0)
            self.is_op(7, x, x, 0)
            self.is_op(8, x, y, 0)
            self.is_op(8, y, x, 0)
            self.is_op(8, x, x, 1)
            self.is_op(8, y, y, 1)

    def test_no_such_op(self):
        setup = [("make", 0, [], [4]), ("make", 1, [], [2])]
        for op in (9, 10, WORD_MOST):
            self.refused(-1, setup, "both", 2, op, 0, 1)


class Both(DeskCase):
    def test_of_one_shape(self):
        self.made(6, [2, 3], [2, -4, 6, -8, 10, -12], SETUP, "both", 6, 0, 0, 0)
        self.made(6, [3], [0, 0, 0], SETUP, "both", 6, 1, 2, 2)
        self.made(6, [], [49], SETUP, "both", 6, 2, 1, 1)
        self.made(6, [2, 3], [1] * 6, SETUP, "both", 6, 8, 0, 0)

    def test_spread_to_where_they_meet(self):
        self.made(6, [2, 3], [11, 18, 33, 6, 25, 24], SETUP, "both", 6, 0, 0, 2)
        self.made(6, [2, 3], [-9, -22, -27, -14, -15, -36], SETUP, "both", 6, 1, 0, 2)
        self.made(6, [2, 3], [9, 22, 27, 14, 15, 36], SETUP, "both", 6, 1, 2, 0)
        self.made(6, [2, 3], [8, 5, 10, 3, 12, 1], SETUP, "both", 6, 0, 0, 1)
        self.made(6, [2, 3], [6, 9, 4, 11, 2, 13], SETUP, "both", 6, 1, 1, 0)
        self.made(6, [2, 3], [-1, 2, -3, -8, 10, -12], SETUP, "both", 6, 2, 0, 3)

    def test_both_are_spread(self):
        self.made(6, [2, 3], [11, 21, 31, 8, 18, 28], SETUP, "both", 6, 1, 2, 3)
        self.made(6, [2, 3], [-11, -21, -31, -8, -18, -28], SETUP, "both", 6, 1, 3, 2)
        # 4 has lengths 2, 1, 2, 2: axis 2 meets that of 3, which stands before the last.
        cells = [a + b for a, b in zip(range(1, 9), [-1, -1, 2, 2] * 2)]
        self.made(6, [2, 1, 2, 2], cells, SETUP, "both", 6, 0, 4, 3)
        setup = SETUP + [("make", 6, [3, 1, 1], [100, 200, 300])]
        cells = [h + 4 * a + n for a in range(2) for h in (101, 201, 301) for n in range(4)]
        self.made(7, [2, 3, 2, 2], cells, setup, "both", 7, 0, 4, 6)
        self.made(7, [2, 3, 2, 2], cells, setup, "both", 7, 0, 6, 4)

    def test_they_do_not_meet(self):
        self.refused(-3, SETUP, "both", 6, 0, 2, 5)
        self.refused(-3, SETUP, "both", 6, 0, 5, 2)
        self.refused(-3, SETUP, "both", 6, 0, 0, 4)
        self.refused(-3, SETUP, "both", 6, 0, 4, 0)
        setup = SETUP + [("fill", 6, 1, [3, 2]), ("fill", 7, 1, [3, 3])]
        for op in range(9):
            self.refused(-3, setup, "both", 5, op, 0, 6)
            self.refused(-3, setup, "both", 5, op, 7, 0)

    def test_more_cells_than_may_be(self):
        setup = SETUP + [("fill", 6, 1, [2, 1])]
        self.refused(-6, setup, "both", 7, 0, 5, 6)
        self.refused(-6, setup, "both", 7, 0, 6, 5)
        setup = SETUP + [("fill", 6, 3, [32, 1]), ("fill", 7, 2, [32])]
        self.made(0, [32, 32], [5] * 1024, setup, "both", 0, 0, 6, 7)
        setup = SETUP + [("fill", 6, 3, [32, 1]), ("fill", 7, 2, [33])]
        self.refused(-6, setup, "both", 0, 0, 6, 7)
        setup = SETUP + [("fill", 6, 3, [1024, 1, 1, 1]), ("fill", 7, 2, [1024])]
        self.refused(-6, setup, "both", 0, 8, 6, 7)

    def test_one_cell_that_there_is_none_of(self):
        cells = [GREATEST - 1, -GREATEST, GREATEST]
        setup = SETUP + [("make", 6, [3], cells), ("make", 7, [3], [1, 0, 1])]
        self.refused(-6, setup, "both", 2, 0, 6, 7)
        self.made(2, [3], [GREATEST - 2, -GREATEST, GREATEST - 1], setup, "both", 2, 1, 6, 7)
        self.refused(-6, setup, "both", 2, 5, 6, 7)
        self.refused(-6, setup, "both", 2, 6, 6, 7)
        self.made(2, [3], [0, 0, 0], setup, "both", 2, 5, 7, 6)

    def test_into_itself(self):
        self.made(0, [2, 3], [11, 18, 33, 6, 25, 24], SETUP, "both", 0, 0, 0, 2)
        self.made(2, [2, 3], [11, 18, 33, 6, 25, 24], SETUP, "both", 2, 0, 0, 2)
        self.made(2, [3], [100, 400, 900], SETUP, "both", 2, 2, 2, 2)

    def test_refusals_in_order(self):
        self.refused(-1, SETUP, "both", 8, 0, 7, 7)
        self.refused(-1, SETUP, "both", 8, 0, 0, 0)
        self.refused(-1, SETUP, "both", 6, 0, 8, 7)
        self.refused(-2, SETUP, "both", 6, 0, 7, 8)
        self.refused(-1, SETUP, "both", 6, 0, 0, 8)
        self.refused(-2, SETUP, "both", 6, 0, 0, 7)
        self.refused(-2, SETUP, "both", 6, 9, 7, 0)
        self.refused(-2, SETUP, "both", 6, 9, 0, 7)
        self.refused(-1, SETUP, "both", 6, 9, 2, 5)
        # Lengths that don't meet go before cells that there's none of.
        setup = SETUP + [("fill", 6, GREATEST, [2])]
        self.refused(-3, setup, "both", 6, 0, 6, 0)
        self.refused(-3, SETUP + [("fill", 6, 1, [2, 1, 2])], "both", 6, 0, 6, 5)


class Fold(DeskCase):
    def test_ordinary(self):
        self.made(6, [3], [-3, 3, -3], SETUP, "fold", 6, 0, 0, 0)
        self.made(6, [2], [2, -5], SETUP, "fold", 6, 0, 1, 0)
        self.made(6, [3], [-4, -10, -18], SETUP, "fold", 6, 1, 0, 0)
        self.made(6, [2], [-6, 120], SETUP, "fold", 6, 1, 1, 0)
        self.made(6, [3], [-4, -2, -6], SETUP, "fold", 6, 2, 0, 0)
        self.made(6, [2], [-2, -6], SETUP, "fold", 6, 2, 1, 0)
        self.made(6, [3], [1, 5, 3], SETUP, "fold", 6, 3, 0, 0)
        self.made(6, [2], [3, 5], SETUP, "fold", 6, 3, 1, 0)

    def test_rank_1_folds_to_rank_0(self):
        for f, value in ((0, 60), (1, 6000), (2, 10), (3, 30)):
            self.made(6, [], [value], SETUP, "fold", 6, f, 0, 2)
        self.made(6, [], [1023 * 512], SETUP, "fold", 6, 0, 0, 5)

    def test_rank_4(self):
        self.made(6, [1, 2, 2], [6, 8, 10, 12], SETUP, "fold", 6, 0, 0, 4)
        self.made(6, [2, 2, 2], [1, 2, 3, 4, 5, 6, 7, 8], SETUP, "fold", 6, 0, 1, 4)
        self.made(6, [2, 1, 2], [4, 6, 12, 14], SETUP, "fold", 6, 0, 2, 4)
        self.made(6, [2, 1, 2], [3, 7, 11, 15], SETUP, "fold", 6, 0, 3, 4)

    def test_one_cell_is_its_own_fold(self):
        setup = [("make", 0, [1], [GREATEST]), ("make", 1, [2, 1], [-GREATEST, 5])]
        for f in range(4):
            self.made(2, [], [GREATEST], setup, "fold", 2, f, 0, 0)
            self.made(2, [2], [-GREATEST, 5], setup, "fold", 2, f, 1, 1)

    def test_at_the_bounds(self):
        setup = [("make", 0, [3], [GREATEST - 3, 1, 2]), ("make", 1, [3], [10 ** 5, -10 ** 5, 10 ** 5])]
        self.made(2, [], [GREATEST], setup, "fold", 2, 0, 0, 0)
        self.made(2, [], [-GREATEST], setup, "fold", 2, 1, 0, 1)
        setup = [("make", 0, [3], [GREATEST - 3, 1, 3]), ("make", 1, [3], [10 ** 5 + 1, -10 ** 5, 10 ** 5])]
        self.refused(-6, setup, "fold", 2, 0, 0, 0)
        self.refused(-6, setup, "fold", 2, 1, 0, 1)

    def test_a_step_on_the_way_has_none(self):
        setup = [
            ("make", 0, [3], [GREATEST, 1, -1]),
            ("make", 1, [3], [GREATEST, 2, 0]),
            ("make", 2, [3], [-GREATEST, -1, GREATEST]),
            ("make", 3, [4], [10 ** 8, 10 ** 8, 0, 5]),
        ]
        self.refused(-6, setup, "fold", 4, 0, 0, 0)
        self.refused(-6, setup, "fold", 4, 1, 0, 1)
        self.refused(-6, setup, "fold", 4, 0, 0, 2)
        self.refused(-6, setup, "fold", 4, 1, 0, 3)
        # The same cells in another order have a fold: it goes from the first cell on.
        setup = [("make", 0, [3], [GREATEST, -1, 1]), ("make", 1, [3], [GREATEST, 0, 2])]
        self.made(4, [], [GREATEST], setup, "fold", 4, 0, 0, 0)
        self.made(4, [], [0], setup, "fold", 4, 1, 0, 1)

    def test_one_row_without_a_fold_is_enough(self):
        setup = [("make", 0, [2, 2], [1, 2, GREATEST, 1]), ("make", 1, [2, 2], [GREATEST, 2, 1, 1])]
        self.refused(-6, setup, "fold", 2, 0, 1, 0)
        self.made(2, [2], [GREATEST, 3], [("make", 0, [2, 2], [GREATEST - 1, 1, 1, 2])], "fold", 2, 0, 1, 0)
        self.refused(-6, setup, "fold", 2, 0, 0, 1)
        self.made(2, [2], [2, GREATEST], setup, "fold", 2, 3, 1, 0)

    def test_into_itself(self):
        self.made(0, [3], [-3, 3, -3], SETUP, "fold", 0, 0, 0, 0)

    def test_no_such_fold_and_no_such_axis(self):
        for name in ("fold", "scan"):
            for f in (4, 5, 8, WORD_MOST):
                self.refused(-1, SETUP, name, 6, f, 0, 0)
            for axis, i in ((0, 1), (1, 2), (2, 0), (4, 4), (WORD_MOST, 4)):
                self.refused(-1, SETUP, name, 6, 0, axis, i)

    def test_refusals_in_order(self):
        setup = SETUP + [("make", 6, [2], [GREATEST, 1])]
        for name in ("fold", "scan"):
            self.refused(-1, SETUP, name, 8, 0, 0, 7)
            self.refused(-1, SETUP, name, 8, 0, 0, 0)
            self.refused(-1, SETUP, name, 6, 0, 0, 8)
            self.refused(-1, SETUP, name, 6, 0, 0, WORD_MOST)
            self.refused(-2, SETUP, name, 6, 0, 0, 7)
            self.refused(-2, SETUP, name, 6, 9, 9, 7)
            self.refused(-1, setup, name, 6, 4, 0, 6)
            self.refused(-1, setup, name, 6, 0, 1, 6)
            self.refused(-6, setup, name, 6, 0, 0, 6)


class Scan(DeskCase):
    def test_ordinary(self):
        self.made(6, [2, 3], [1, -2, 3, -3, 3, -3], SETUP, "scan", 6, 0, 0, 0)
        self.made(6, [2, 3], [1, -1, 2, -4, 1, -5], SETUP, "scan", 6, 0, 1, 0)
        self.made(6, [2, 3], [1, -2, -6, -4, -20, 120], SETUP, "scan", 6, 1, 1, 0)
        self.made(6, [2, 3], [1, -2, -2, -4, -4, -6], SETUP, "scan", 6, 2, 1, 0)
        self.made(6, [2, 3], [1, 1, 3, -4, 5, 5], SETUP, "scan", 6, 3, 1, 0)
        self.made(6, [2, 3], [1, -2, 3, 1, 5, 3], SETUP, "scan", 6, 3, 0, 0)
        self.made(6, [3], [10, 30, 60], SETUP, "scan", 6, 0, 0, 2)
        self.made(6, [2, 1], [-1, 2], SETUP, "scan", 6, 0, 1, 3)

    def test_rank_4(self):
        self.made(6, [2, 1, 2, 2], [1, 2, 3, 4, 6, 8, 10, 12], SETUP, "scan", 6, 0, 0, 4)
        self.made(6, [2, 1, 2, 2], [1, 2, 3, 4, 5, 6, 7, 8], SETUP, "scan", 6, 0, 1, 4)
        self.made(6, [2, 1, 2, 2], [1, 2, 4, 6, 5, 6, 12, 14], SETUP, "scan", 6, 0, 2, 4)
        self.made(6, [2, 1, 2, 2], [1, 3, 3, 7, 5, 11, 7, 15], SETUP, "scan", 6, 0, 3, 4)

    def test_the_most_cells(self):
        self.made(6, [1024], [n * (n + 1) // 2 for n in range(1024)], SETUP, "scan", 6, 0, 0, 5)

    def test_a_step_on_the_way_has_none(self):
        setup = [
            ("make", 0, [3], [GREATEST, 1, -1]),
            ("make", 1, [3], [GREATEST, 2, 0]),
            ("make", 2, [3], [5, -GREATEST, -6]),
            ("make", 3, [2, 2], [1, 2, GREATEST, 1]),
        ]
        self.refused(-6, setup, "scan", 4, 0, 0, 0)
        self.refused(-6, setup, "scan", 4, 1, 0, 1)
        self.refused(-6, setup, "scan", 4, 0, 0, 2)
        self.refused(-6, setup, "scan", 4, 0, 1, 3)
        self.made(4, [3], [5, 5 - GREATEST, -GREATEST], [("make", 2, [3], [5, -GREATEST, -5])], "scan", 4, 0, 0, 2)
        self.made(4, [3], [GREATEST] * 3, setup, "scan", 4, 3, 0, 0)
        self.made(4, [3], [GREATEST, GREATEST - 1, GREATEST], [("make", 0, [3], [GREATEST, -1, 1])], "scan", 4, 0, 0, 0)

    def test_into_itself(self):
        self.made(0, [2, 3], [1, -1, 2, -4, 1, -5], SETUP, "scan", 0, 0, 1, 0)


if __name__ == "__main__":
    unittest.main()
