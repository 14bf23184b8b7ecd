"""The calls that move whole axes: turn and join, 12 and 13."""

from arraydesk.arrays import Array, cell_at
from arraydesk.refusals import BEYOND, UNLIKE, WRONG
from arraydesk.shapes import is_shape, places_of
from arraydesk.slots import keep, slots_refusal


def place_before_turn(axes, place):
    """The place in the unturned array of a place of the turned one."""
    before = [0 for axis in axes]
    for axis, number in zip(axes, place):
        before[axis] = number
    return before


def turned_array(array, axes):
    lengths = [array.lengths[axis] for axis in axes]
    cells = [cell_at(array, place_before_turn(axes, place)) for place in places_of(lengths)]
    return Array(lengths, cells)


def with_length(lengths, axis, length):
    changed = list(lengths)
    changed[axis] = length
    return changed


def lengths_join(first, second, axis):
    """Whether two shapes are of one rank and alike but for their lengths of this axis."""
    if len(first) != len(second):
        return False
    return with_length(first, axis, second[axis]) == second


def joined_cell(first, second, axis, place):
    length = first.lengths[axis]
    if place[axis] < length:
        return cell_at(first, place)
    return cell_at(second, with_length(place, axis, place[axis] - length))


def call_turn(slots, k, i, axes):
    refusal = slots_refusal(slots, k, [i])
    if refusal != 0:
        return [refusal]
    if sorted(axes) != list(range(len(slots[i].lengths))):
        return [WRONG]
    return keep(slots, k, turned_array(slots[i], axes))


def call_join(slots, k, axis, i, j):
    refusal = slots_refusal(slots, k, [i, j])
    if refusal != 0:
        return [refusal]
    first = slots[i]
    second = slots[j]
    if axis >= len(first.lengths):
        return [WRONG]
    if not lengths_join(first.lengths, second.lengths, axis):
        return [UNLIKE]
    lengths = with_length(first.lengths, axis, first.lengths[axis] + second.lengths[axis])
    if not is_shape(lengths):
        return [BEYOND]
    cells = [joined_cell(first, second, axis, place) for place in places_of(lengths)]
    return keep(slots, k, Array(lengths, cells))


def turning_answer(slots, call, wholes, rows):
    if call == 12:
        return call_turn(slots, wholes[0], wholes[1], rows[0])
    return call_join(slots, wholes[0], wholes[1], wholes[2], wholes[3])
