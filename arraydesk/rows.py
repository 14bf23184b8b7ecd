"""The rows of an axis: an array as its rows, and the array that rows make."""

from arraydesk.arrays import Array, cell_at
from arraydesk.shapes import number_of, places_of, with_axis, without_axis


def row_at(array, axis, others):
    """The row whose places have these other numbers."""
    return [cell_at(array, with_axis(others, axis, number)) for number in range(array.lengths[axis])]


def rows_of(array, axis):
    """All rows of an axis, in the order of the places without it."""
    return [row_at(array, axis, others) for others in places_of(without_axis(array.lengths, axis))]


def array_of_rows(lengths, axis, rows):
    """The array of these lengths whose rows_of this axis are the given ones."""
    other_lengths = without_axis(lengths, axis)
    cells = []
    for place in places_of(lengths):
        row = rows[number_of(other_lengths, without_axis(place, axis))]
        cells.append(row[place[axis]])
    return Array(lengths, cells)
