"""An array, and the whole numbers that may be its cells."""

from arraydesk.shapes import number_of

GREATEST_CELL = 1000000000000000


class Array:
    """A shape and its cells, in the order of their numbers.

    It is never changed once it is made, so that slots may share one.
    """

    def __init__(self, lengths, cells):
        self.lengths = lengths
        self.cells = cells


def is_cell(number):
    return -GREATEST_CELL <= number and number <= GREATEST_CELL


def cell_at(array, place):
    return array.cells[number_of(array.lengths, place)]
