"""Shapes, places and the numbers of cells."""

MOST_LENGTHS = 4
MOST_CELLS = 1024


def cell_count(lengths):
    cells = 1
    for length in lengths:
        cells = cells * length
    return cells


def is_shape(lengths):
    if len(lengths) > MOST_LENGTHS:
        return False
    for length in lengths:
        if length < 1:
            return False
    return cell_count(lengths) <= MOST_CELLS


def is_place(lengths, place):
    if len(place) != len(lengths):
        return False
    for length, number in zip(lengths, place):
        if number < 0 or number >= length:
            return False
    return True


def number_of(lengths, place):
    """The number of the cell at a place: the last axis is the fastest."""
    cell = 0
    for length, number in zip(lengths, place):
        cell = cell * length + number
    return cell


def place_of(lengths, cell):
    """The place of the cell of a number: number_of the other way round."""
    place = []
    left = cell
    for length in reversed(lengths):
        place.append(left % length)
        left = left // length
    place.reverse()
    return place


def places_of(lengths):
    """All places, in the order of their cells' numbers."""
    return [place_of(lengths, cell) for cell in range(cell_count(lengths))]


def with_axis(numbers, axis, number):
    """A shape or a place with one axis more, which comes to stand at that axis."""
    return numbers[:axis] + [number] + numbers[axis:]


def without_axis(numbers, axis):
    return numbers[:axis] + numbers[axis + 1:]


def with_length(lengths, axis, length):
    return with_axis(without_axis(lengths, axis), axis, length)
