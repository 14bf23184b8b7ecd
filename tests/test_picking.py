"""order, take, pack and land."""

import unittest

from helper import DeskCase, GREATEST, WORD_MOST

SETUP = [
    ("make", 0, [2, 3], [30, 10, 20, -5, 7, -5]),
    ("make", 1, [], [7]),
    ("make", 2, [3], [2, 0, 2]),
    ("make", 3, [2, 3], [0, 1, 0, -1, 0, GREATEST]),
    ("count", 4, 1, 1, [2, 1, 2, 2]),
    ("count", 5, 0, 1, [1024]),
]


class Order(DeskCase):
    def test_ordinary(self):
        self.made(6, [2, 3], [1, 2, 0, 0, 2, 1], SETUP, "order", 6, 1, 0)
        self.made(6, [2, 3], [1, 1, 1, 0, 0, 0], SETUP, "order", 6, 0, 0)
        self.made(6, [1024], list(range(1024)), SETUP, "order", 6, 0, 5)

    def test_alike_cells(self):
        self.made(6, [3], [1, 0, 2], SETUP, "order", 6, 0, 2)
        setup = [("make", 0, [8], [3, 1, 3, 2, 1, 3, 2, 1]), ("fill", 1, -4, [1024]), ("fill", 2, 0, [3, 2])]
        self.made(3, [8], [1, 4, 7, 3, 6, 0, 2, 5], setup, "order", 3, 0, 0)
        self.made(3, [1024], list(range(1024)), setup, "order", 3, 0, 1)
        self.made(3, [3, 2], [0, 0, 1, 1, 2, 2], setup, "order", 3, 0, 2)
        self.made(3, [3, 2], [0, 1, 0, 1, 0, 1], setup, "order", 3, 1, 2)

    def test_cells_below_0_and_at_the_bounds(self):
        setup = [("make", 0, [6], [0, GREATEST, -1, -GREATEST, 1, GREATEST])]
        self.made(3, [6], [3, 2, 0, 4, 1, 5], setup, "order", 3, 0, 0)
        setup = [("count", 0, 5, -1, [1024])]
        self.made(3, [1024], list(range(1023, -1, -1)), setup, "order", 3, 0, 0)

    def test_rank_4(self):
        setup = [("make", 0, [2, 1, 2, 2], [8, 1, 7, 2, 6, 3, 5, 4])]
        self.made(3, [2, 1, 2, 2], [1, 0, 1, 0, 0, 1, 0, 1], setup, "order", 3, 0, 0)
        self.made(3, [2, 1, 2, 2], [0] * 8, setup, "order", 3, 1, 0)
        self.made(3, [2, 1, 2, 2], [1, 0, 0, 1, 1, 0, 0, 1], setup, "order", 3, 2, 0)
        self.made(3, [2, 1, 2, 2], [1, 0, 1, 0, 1, 0, 1, 0], setup, "order", 3, 3, 0)

    def test_into_itself(self):
        self.made(0, [2, 3], [1, 2, 0, 0, 2, 1], SETUP, "order", 0, 1, 0)

    def test_no_such_axis(self):
        for axis, i in ((0, 1), (1, 2), (2, 0), (4, 4), (WORD_MOST, 4)):
            self.refused(-1, SETUP, "order", 6, axis, i)

    def test_refusals_in_order(self):
        self.refused(-1, SETUP, "order", 8, 0, 7)
        self.refused(-1, SETUP, "order", 8, 0, 0)
        self.refused(-1, SETUP, "order", 6, 0, 8)
        self.refused(-1, SETUP, "order", 6, 0, WORD_MOST)
        self.refused(-2, SETUP, "order", 6, 0, 7)
        self.refused(-2, SETUP, "order", 6, 9, 7)


class Take(DeskCase):
    def test_ordinary(self):
        self.made(6, [2, 3], [20, 30, 20, -5, -5, -5], SETUP, "take", 6, 1, 0, 2)
        self.made(6, [3], [2, 2, 2], SETUP, "take", 6, 0, 2, 2)
        setup = SETUP + [("make", 6, [4], [1, 0, 1, 1]), ("make", 7, [1], [1])]
        self.made(5, [4, 3], [-5, 7, -5, 30, 10, 20, -5, 7, -5, -5, 7, -5], setup, "take", 5, 0, 0, 6)
        self.made(5, [2, 4], [10, 30, 10, 10, 7, -5, 7, 7], setup, "take", 5, 1, 0, 6)
        self.made(5, [1, 3], [-5, 7, -5], setup, "take", 5, 0, 0, 7)
        self.made(6, [1024], list(range(1024)), SETUP, "take", 6, 0, 5, 5)

    def test_rank_4(self):
        setup = SETUP + [("make", 6, [3], [1, 0, 1]), ("make", 7, [2], [0, 0])]
        self.made(0, [3, 1, 2, 2], [5, 6, 7, 8, 1, 2, 3, 4, 5, 6, 7, 8], setup, "take", 0, 0, 4, 6)
        self.made(0, [2, 2, 2, 2], [1, 2, 3, 4] * 2 + [5, 6, 7, 8] * 2, setup, "take", 0, 1, 4, 7)
        self.made(0, [2, 1, 3, 2], [3, 4, 1, 2, 3, 4, 7, 8, 5, 6, 7, 8], setup, "take", 0, 2, 4, 6)
        self.made(0, [2, 1, 2, 3], [2, 1, 2, 4, 3, 4, 6, 5, 6, 8, 7, 8], setup, "take", 0, 3, 4, 6)

    def test_the_numbers_are_of_rank_1(self):
        self.refused(-3, SETUP, "take", 6, 0, 2, 1)
        self.refused(-3, SETUP, "take", 6, 0, 2, 0)
        self.refused(-3, SETUP, "take", 6, 0, 0, 4)
        self.refused(-3, SETUP + [("fill", 6, 0, [1, 1])], "take", 7, 0, 0, 6)

    def test_a_number_that_there_is_none_of(self):
        for number in (-1, 3, -3, GREATEST, -GREATEST):
            for numbers in ([number], [0, number], [number, 0, 1]):
                setup = SETUP + [("make", 6, [len(numbers)], numbers)]
                self.refused(-4, setup, "take", 7, 1, 0, 6)
        self.refused(-4, SETUP, "take", 6, 0, 0, 2)
        self.refused(-4, SETUP, "take", 6, 0, 2, 5)

    def test_too_many_cells(self):
        setup = SETUP + [("fill", 6, 1, [512]), ("fill", 7, 1, [513])]
        self.made(1, [512, 1], [2] * 512, setup + [("make", 0, [2, 1], [1, 2])], "take", 1, 0, 0, 6)
        setup += [("make", 0, [2, 2], [1, 2, 3, 4])]
        self.made(1, [512, 2], [3, 4] * 512, setup, "take", 1, 0, 0, 6)
        self.made(1, [2, 512], [2] * 512 + [4] * 512, setup, "take", 1, 1, 0, 6)
        self.refused(-6, setup, "take", 1, 0, 0, 7)
        self.refused(-6, setup, "take", 1, 1, 0, 7)

    def test_into_itself(self):
        self.made(0, [2, 3], [20, 30, 20, -5, -5, -5], SETUP, "take", 0, 1, 0, 2)
        self.made(2, [2, 3], [20, 30, 20, -5, -5, -5], SETUP, "take", 2, 1, 0, 2)
        setup = SETUP + [("make", 6, [3], [1, 2, 0])]
        self.made(6, [3], [2, 0, 1], setup, "take", 6, 0, 6, 6)

    def test_no_such_axis(self):
        for axis, i in ((0, 1), (1, 2), (2, 0), (4, 4), (WORD_MOST, 4)):
            self.refused(-1, SETUP, "take", 6, axis, i, 2)
            self.refused(-1, SETUP, "take", 6, axis, i, 1)

    def test_refusals_in_order(self):
        self.refused(-1, SETUP, "take", 8, 0, 7, 7)
        self.refused(-1, SETUP, "take", 8, 1, 0, 2)
        self.refused(-1, SETUP, "take", 6, 0, 8, 7)
        self.refused(-2, SETUP, "take", 6, 0, 7, 8)
        self.refused(-1, SETUP, "take", 6, 0, 0, 8)
        self.refused(-2, SETUP, "take", 6, 0, 0, 7)
        self.refused(-2, SETUP, "take", 6, 9, 0, 7)
        self.refused(-2, SETUP, "take", 6, 9, 7, 0)
        # A rank that isn't 1 goes before numbers that aren't there, these before too many cells.
        self.refused(-3, SETUP, "take", 6, 0, 2, 0)
        self.refused(-3, SETUP + [("fill", 6, 0, [1024, 1])], "take", 6, 0, 0, 6)
        self.refused(-4, SETUP + [("count", 6, 0, 1, [1024])], "take", 6, 0, 0, 6)


class Pack(DeskCase):
    def test_ordinary(self):
        self.made(6, [3], [10, -5, -5], SETUP, "pack", 6, 0, 3)
        self.made(6, [6], [30, 10, 20, -5, 7, -5], SETUP, "pack", 6, 0, 0)
        self.made(6, [3], [1, -1, GREATEST], SETUP, "pack", 6, 3, 3)
        self.made(6, [1023], list(range(1, 1024)), SETUP, "pack", 6, 5, 5)
        self.made(6, [2], [2, 2], SETUP, "pack", 6, 2, 2)

    def test_rank_0_and_4(self):
        self.made(6, [1], [7], SETUP, "pack", 6, 1, 1)
        setup = SETUP + [("make", 6, [2, 1, 2, 2], [0, 0, 3, 0, -4, 0, 0, 5])]
        self.made(7, [3], [3, 5, 8], setup, "pack", 7, 4, 6)
        self.made(7, [8], [0, 0, 3, 0, -4, 0, 0, 5], setup, "pack", 7, 6, 4)

    def test_other_lengths(self):
        self.refused(-3, SETUP, "pack", 6, 0, 2)
        self.refused(-3, SETUP, "pack", 6, 2, 0)
        self.refused(-3, SETUP, "pack", 6, 0, 1)
        # As many cells, or lengths that would spread, are other lengths all the same.
        setup = SETUP + [("fill", 6, 1, [3, 2]), ("fill", 7, 1, [6])]
        self.refused(-3, setup, "pack", 5, 0, 6)
        self.refused(-3, setup, "pack", 5, 0, 7)
        self.refused(-3, setup, "pack", 5, 7, 0)
        setup = SETUP + [("fill", 6, 1, [1, 3]), ("fill", 7, 1, [1])]
        self.refused(-3, setup, "pack", 5, 2, 6)
        self.refused(-3, setup, "pack", 5, 1, 7)

    def test_there_is_none(self):
        setup = SETUP + [("fill", 6, 0, [2, 3]), ("fill", 7, 0, [])]
        self.refused(-5, setup, "pack", 5, 0, 6)
        self.refused(-5, setup, "pack", 6, 6, 6)
        self.refused(-5, setup, "pack", 5, 1, 7)
        self.made(5, [1], [0], setup, "pack", 5, 7, 1)

    def test_into_itself(self):
        self.made(0, [3], [10, -5, -5], SETUP, "pack", 0, 0, 3)
        self.made(3, [3], [10, -5, -5], SETUP, "pack", 3, 0, 3)
        self.made(3, [3], [1, -1, GREATEST], SETUP, "pack", 3, 3, 3)

    def test_refusals_in_order(self):
        self.refused(-1, SETUP, "pack", 8, 7, 7)
        self.refused(-1, SETUP, "pack", 8, 0, 0)
        self.refused(-1, SETUP, "pack", WORD_MOST, 0, 0)
        self.refused(-1, SETUP, "pack", 6, 8, 7)
        self.refused(-2, SETUP, "pack", 6, 7, 8)
        self.refused(-1, SETUP, "pack", 6, 0, 8)
        self.refused(-2, SETUP, "pack", 6, 0, 7)
        self.refused(-3, SETUP + [("fill", 6, 0, [6])], "pack", 6, 0, 6)


class Land(DeskCase):
    def land(self, mode, cells, numbers, landing):
        """What one length of cells is after the landing."""
        setup = self.landing(cells, numbers, landing)
        self.assertEqual(self.answer(setup, "land", 0, mode, 1, 2), [0, len(cells)])
        return self.answer(setup + [("land", 0, mode, 1, 2)], "cells", 0)[1:]

    def landing(self, cells, numbers, landing):
        return [("make", 0, [len(cells)], cells), ("make", 1, [len(numbers)], numbers),
                ("make", 2, [len(landing)], landing)]

    def test_put(self):
        self.assertEqual(self.land(0, [1, 2, 3], [2, 0], [7, 8]), [8, 2, 7])
        self.assertEqual(self.land(0, [1, 2, 3], [1, 1, 1], [7, 8, 9]), [1, 9, 3])
        self.assertEqual(self.land(0, [1], [0], [-GREATEST]), [-GREATEST])

    def test_added(self):
        self.assertEqual(self.land(1, [1, 2, 3], [2, 0], [7, 8]), [9, 2, 10])
        self.assertEqual(self.land(1, [1, 2, 3], [1, 1, 1], [7, 8, -9]), [1, 8, 3])
        self.assertEqual(self.land(1, [GREATEST - 1, 0], [0, 1], [1, -GREATEST]), [GREATEST, -GREATEST])

    def test_least_and_most(self):
        self.assertEqual(self.land(2, [1, 2, 3], [0, 1, 2], [2, 1, 3]), [1, 1, 3])
        self.assertEqual(self.land(2, [5, 5], [1, 1, 1], [3, 1, 2]), [5, 1])
        self.assertEqual(self.land(2, [-5, GREATEST], [0, 1], [-4, -GREATEST]), [-5, -GREATEST])
        self.assertEqual(self.land(3, [1, 2, 3], [0, 1, 2], [2, 1, 3]), [2, 2, 3])
        self.assertEqual(self.land(3, [5, 5], [1, 1, 1], [6, 8, 7]), [5, 8])
        self.assertEqual(self.land(3, [-5, -GREATEST], [0, 1], [-4, GREATEST]), [-4, GREATEST])

    def test_lengths_of_any_rank(self):
        # i's lengths are told; j tells cells' numbers of i, and only j and l need like lengths.
        setup = SETUP + [("make", 6, [2, 1], [5, 1]), ("make", 7, [2, 1], [100, 200])]
        self.made(0, [2, 3], [30, 200, 20, -5, 7, 100], setup, "land", 0, 0, 6, 7)
        self.made(0, [2, 3], [30, 210, 20, -5, 7, 95], setup, "land", 0, 1, 6, 7)
        self.made(4, [2, 1, 2, 2], [1, 202, 3, 4, 5, 106, 7, 8], setup, "land", 4, 1, 6, 7)
        setup = SETUP + [("make", 6, [], [0]), ("make", 7, [], [-1])]
        self.made(1, [], [6], setup, "land", 1, 1, 6, 7)
        self.made(1, [], [-1], setup, "land", 1, 2, 6, 7)
        self.made(1, [], [7], setup, "land", 1, 3, 6, 7)
        setup = SETUP + [("fill", 6, 0, [2, 1, 2, 2]), ("fill", 7, 0, [1024])]
        self.made(1, [], [7 + 36], setup, "land", 1, 1, 6, 4)
        self.made(1, [], [1023], setup, "land", 1, 0, 7, 5)

    def test_no_such_mode(self):
        for mode in (4, 5, WORD_MOST):
            self.refused(-1, self.landing([1, 2], [0, 1], [3, 4]), "land", 0, mode, 1, 2)

    def test_other_lengths(self):
        self.refused(-3, self.landing([1, 2], [0, 1], [3]), "land", 0, 0, 1, 2)
        self.refused(-3, self.landing([1, 2], [0], [3, 4]), "land", 0, 0, 1, 2)
        setup = [("fill", 0, 1, [4]), ("fill", 1, 1, [2, 1]), ("fill", 2, 1, [1, 2]), ("fill", 3, 1, [2])]
        for j, l in ((1, 2), (2, 1), (1, 3), (3, 1), (2, 3), (3, 2)):
            self.refused(-3, setup, "land", 0, 0, j, l)

    def test_a_number_without_a_cell(self):
        for number in (-1, 3, GREATEST, -GREATEST):
            for mode in range(4):
                self.refused(-4, self.landing([1, 2, 3], [number], [5]), "land", 0, mode, 1, 2)
                self.refused(-4, self.landing([1, 2, 3], [0, 1, number], [5, 6, 7]), "land", 0, mode, 1, 2)
        self.refused(-4, [("make", 0, [], [1]), ("make", 1, [], [1])], "land", 0, 0, 1, 1)

    def test_beyond_a_cell(self):
        self.refused(-6, self.landing([1, GREATEST], [1], [1]), "land", 0, 1, 1, 2)
        self.refused(-6, self.landing([1, -GREATEST], [0, 1], [1, -1]), "land", 0, 1, 1, 2)
        # On the way, too: one cell after another lands.
        self.refused(-6, self.landing([GREATEST], [0, 0], [1, -1]), "land", 0, 1, 1, 2)
        self.assertEqual(self.land(1, [GREATEST], [0, 0], [-1, 1]), [GREATEST])
        self.refused(-6, self.landing([0, 0], [1, 1, 1], [GREATEST, GREATEST, -GREATEST]), "land", 0, 1, 1, 2)
        for mode in (0, 2, 3):
            self.made(0, [1], [GREATEST], self.landing([GREATEST], [0], [GREATEST]), "land", 0, mode, 1, 2)

    def test_on_itself(self):
        setup = self.landing([1, 2, 0], [2, 0, 1], [7, 8, 9])
        self.made(0, [3], [9, 7, 8], setup, "land", 0, 0, 0, 2)
        self.made(0, [3], [2, 0, 1], setup, "land", 0, 0, 1, 0)
        self.made(0, [3], [0, 1, 2], setup, "land", 0, 0, 0, 0)
        self.made(0, [3], [1, 3, 2], setup, "land", 0, 1, 0, 0)
        self.made(1, [3], [0, 1, 2], setup, "land", 1, 0, 1, 1)

    def test_refusals_in_order(self):
        self.refused(-1, SETUP, "land", 8, 0, 7, 7)
        self.refused(-1, SETUP, "land", WORD_MOST, 0, 0, 0)
        self.refused(-2, SETUP, "land", 7, 0, 8, 8)
        self.refused(-1, SETUP, "land", 0, 0, 8, 7)
        self.refused(-2, SETUP, "land", 0, 0, 7, 8)
        self.refused(-1, SETUP, "land", 0, 0, 2, 8)
        self.refused(-2, SETUP, "land", 0, 0, 2, 7)
        self.refused(-2, SETUP, "land", 0, 9, 2, 7)
        self.refused(-2, SETUP, "land", 0, 9, 7, 2)
        self.refused(-2, SETUP, "land", 7, 9, 2, 2)
        self.refused(-1, self.landing([1], [5], [3, 4]), "land", 0, 4, 1, 2)
        self.refused(-3, self.landing([1], [5], [3, 4]), "land", 0, 0, 1, 2)
        self.refused(-4, self.landing([GREATEST], [0, 5], [GREATEST, 4]), "land", 0, 1, 1, 2)


if __name__ == "__main__":
    unittest.main()
