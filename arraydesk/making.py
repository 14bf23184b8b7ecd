"""The calls that make an array of given numbers, and the one that drops it: 1 to 4."""

from arraydesk.arrays import Array, is_cell
from arraydesk.refusals import BEYOND, WRONG
from arraydesk.shapes import cell_count, is_shape
from arraydesk.slots import keep, target_refusal


def are_cells(numbers):
    for number in numbers:
        if not is_cell(number):
            return False
    return True


def call_make(slots, k, lengths, cells):
    refusal = target_refusal(k)
    if refusal != 0:
        return [refusal]
    if not is_shape(lengths) or len(cells) != cell_count(lengths) or not are_cells(cells):
        return [WRONG]
    return keep(slots, k, Array(lengths, cells))


def call_fill(slots, k, v, lengths):
    refusal = target_refusal(k)
    if refusal != 0:
        return [refusal]
    if not is_shape(lengths) or not is_cell(v):
        return [WRONG]
    cells = [v for cell in range(cell_count(lengths))]
    return keep(slots, k, Array(lengths, cells))


def call_count(slots, k, start, step, lengths):
    refusal = target_refusal(k)
    if refusal != 0:
        return [refusal]
    if not is_shape(lengths) or not are_cells([start, step]):
        return [WRONG]
    cells = [start + step * cell for cell in range(cell_count(lengths))]
    # The cells go one way only: with the first and the last, all may be.
    if not is_cell(cells[-1]):
        return [BEYOND]
    return keep(slots, k, Array(lengths, cells))


def call_drop(slots, k):
    refusal = target_refusal(k)
    if refusal != 0:
        return [refusal]
    slots[k] = None
    return [0]


def making_answer(slots, call, wholes, rows):
    if call == 1:
        return call_make(slots, wholes[0], rows[0], rows[1])
    if call == 2:
        return call_fill(slots, wholes[0], wholes[1], rows[0])
    if call == 3:
        return call_count(slots, wholes[0], wholes[1], wholes[2], rows[0])
    return call_drop(slots, wholes[0])
