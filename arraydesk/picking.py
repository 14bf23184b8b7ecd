"""The calls that put in order, and take apart by numbers and masks: order, take, pack and land, 19 to 22."""

from arraydesk.arrays import Array
from arraydesk.ops import op_cell
from arraydesk.refusals import BEYOND, NOTHING, NOWHERE, UNLIKE, WRONG
from arraydesk.rows import array_of_rows, rows_of
from arraydesk.shapes import is_shape, with_length
from arraydesk.slots import axis_refusal, keep, keep_reckoned, slots_refusal, sources_refusal

# Of each mode but the first, which puts: the op of the cell that stands there and the one that lands.
LANDING_OPS = {1: 0, 2: 3, 3: 4}
GREATEST_MODE = 3


def ordered_row(row):
    """The numbers of a row's cells, the least cell's first; of alike cells the first one's."""
    pairs = sorted([(cell, number) for number, cell in enumerate(row)])
    return [pair[1] for pair in pairs]


def are_below(numbers, bound):
    for number in numbers:
        if number < 0 or number >= bound:
            return False
    return True


def packed_cells(array, mask):
    return [cell for cell, kept in zip(array.cells, mask.cells) if kept != 0]


def landed_cell(mode, standing, cell):
    if mode == 0:
        return cell
    return op_cell(LANDING_OPS[mode], standing, cell)


def landed_array(array, mode, numbers, landing):
    cells = list(array.cells)
    for number, cell in zip(numbers, landing):
        cells[number] = landed_cell(mode, cells[number], cell)
    return Array(array.lengths, cells)


def call_order(slots, k, axis, i):
    refusal = axis_refusal(slots, k, [i], axis)
    if refusal != 0:
        return [refusal]
    rows = [ordered_row(row) for row in rows_of(slots[i], axis)]
    return keep(slots, k, array_of_rows(slots[i].lengths, axis, rows))


def call_take(slots, k, axis, i, j):
    refusal = axis_refusal(slots, k, [i, j], axis)
    if refusal != 0:
        return [refusal]
    array = slots[i]
    numbers = slots[j].cells
    if len(slots[j].lengths) != 1:
        return [UNLIKE]
    if not are_below(numbers, array.lengths[axis]):
        return [NOWHERE]
    lengths = with_length(array.lengths, axis, len(numbers))
    if not is_shape(lengths):
        return [BEYOND]
    rows = []
    for row in rows_of(array, axis):
        rows.append([row[number] for number in numbers])
    return keep(slots, k, array_of_rows(lengths, axis, rows))


def call_pack(slots, k, i, j):
    refusal = slots_refusal(slots, k, [i, j])
    if refusal != 0:
        return [refusal]
    if slots[i].lengths != slots[j].lengths:
        return [UNLIKE]
    cells = packed_cells(slots[i], slots[j])
    if len(cells) == 0:
        return [NOTHING]
    return keep(slots, k, Array([len(cells)], cells))


def call_land(slots, i, mode, j, l):
    refusal = sources_refusal(slots, [i, j, l])
    if refusal != 0:
        return [refusal]
    if mode > GREATEST_MODE:
        return [WRONG]
    if slots[j].lengths != slots[l].lengths:
        return [UNLIKE]
    numbers = slots[j].cells
    if not are_below(numbers, len(slots[i].cells)):
        return [NOWHERE]
    return keep_reckoned(slots, i, landed_array(slots[i], mode, numbers, slots[l].cells))


def picking_answer(slots, call, wholes):
    if call == 19:
        return call_order(slots, wholes[0], wholes[1], wholes[2])
    if call == 20:
        return call_take(slots, wholes[0], wholes[1], wholes[2], wholes[3])
    if call == 21:
        return call_pack(slots, wholes[0], wholes[1], wholes[2])
    return call_land(slots, wholes[0], wholes[1], wholes[2], wholes[3])
