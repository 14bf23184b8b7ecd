"""The calls that move whole axes, or whole arrays along one: turn, join, roll and repeat, 12 to 15."""

from arraydesk.arrays import Array, cell_at
from arraydesk.refusals import BEYOND, UNLIKE, WRONG
from arraydesk.rows import array_of_rows, rows_of
from arraydesk.shapes import is_shape, places_of, with_length, without_axis
from arraydesk.slots import axis_refusal, keep, slots_refusal

MOST_TIMES = 1024


def place_before_turn(axes, place):
    """The place in the unturned array of a place of the turned one."""
    before = [0 for axis in axes]
    for axis, number in zip(axes, place):
        before[axis] = number
    return before


def turned_array(array, axes):
    lengths = [array.lengths[axis] for axis in axes]
    cells = [cell_at(array, place_before_turn(axes, place)) for place in places_of(lengths)]
    return Array(lengths, cells)


def lengths_join(first, second, axis):
    """Whether two shapes are of one rank and alike but for their lengths of this axis."""
    return len(first) == len(second) and without_axis(first, axis) == without_axis(second, axis)


def rolled_row(row, by):
    return [row[(number - by) % len(row)] for number in range(len(row))]


def call_turn(slots, k, i, axes):
    refusal = slots_refusal(slots, k, [i])
    if refusal != 0:
        return [refusal]
    if sorted(axes) != list(range(len(slots[i].lengths))):
        return [WRONG]
    return keep(slots, k, turned_array(slots[i], axes))


def call_join(slots, k, axis, i, j):
    refusal = axis_refusal(slots, k, [i, j], axis)
    if refusal != 0:
        return [refusal]
    first = slots[i]
    second = slots[j]
    if not lengths_join(first.lengths, second.lengths, axis):
        return [UNLIKE]
    lengths = with_length(first.lengths, axis, first.lengths[axis] + second.lengths[axis])
    if not is_shape(lengths):
        return [BEYOND]
    rows = [row + behind for row, behind in zip(rows_of(first, axis), rows_of(second, axis))]
    return keep(slots, k, array_of_rows(lengths, axis, rows))


def call_roll(slots, k, axis, by, i):
    refusal = axis_refusal(slots, k, [i], axis)
    if refusal != 0:
        return [refusal]
    rows = [rolled_row(row, by) for row in rows_of(slots[i], axis)]
    return keep(slots, k, array_of_rows(slots[i].lengths, axis, rows))


def call_repeat(slots, k, axis, times, i):
    refusal = axis_refusal(slots, k, [i], axis)
    if refusal != 0:
        return [refusal]
    if times < 1 or times > MOST_TIMES:
        return [WRONG]
    array = slots[i]
    lengths = with_length(array.lengths, axis, array.lengths[axis] * times)
    if not is_shape(lengths):
        return [BEYOND]
    rows = [row * times for row in rows_of(array, axis)]
    return keep(slots, k, array_of_rows(lengths, axis, rows))


def turning_answer(slots, call, wholes, rows):
    if call == 12:
        return call_turn(slots, wholes[0], wholes[1], rows[0])
    if call == 13:
        return call_join(slots, wholes[0], wholes[1], wholes[2], wholes[3])
    if call == 14:
        return call_roll(slots, wholes[0], wholes[1], wholes[2], wholes[3])
    return call_repeat(slots, wholes[0], wholes[1], wholes[2], wholes[3])
