"""The calls that tell of an array or set one of its cells: 5 to 8."""

from arraydesk.arrays import Array, cell_at, is_cell
from arraydesk.refusals import NOWHERE, WRONG
from arraydesk.shapes import is_place, number_of
from arraydesk.slots import keep, source_refusal


def call_shape(slots, i):
    refusal = source_refusal(slots, i)
    if refusal != 0:
        return [refusal]
    return [0] + slots[i].lengths


def call_cells(slots, i):
    refusal = source_refusal(slots, i)
    if refusal != 0:
        return [refusal]
    return [0] + slots[i].cells


def call_at(slots, i, place):
    refusal = source_refusal(slots, i)
    if refusal != 0:
        return [refusal]
    if not is_place(slots[i].lengths, place):
        return [NOWHERE]
    return [0, cell_at(slots[i], place)]


def call_set(slots, i, v, place):
    refusal = source_refusal(slots, i)
    if refusal != 0:
        return [refusal]
    if not is_cell(v):
        return [WRONG]
    array = slots[i]
    if not is_place(array.lengths, place):
        return [NOWHERE]
    cells = list(array.cells)
    cells[number_of(array.lengths, place)] = v
    return keep(slots, i, Array(array.lengths, cells))


def telling_answer(slots, call, wholes, rows):
    if call == 5:
        return call_shape(slots, wholes[0])
    if call == 6:
        return call_cells(slots, wholes[0])
    if call == 7:
        return call_at(slots, wholes[0], rows[0])
    return call_set(slots, wholes[0], wholes[1], rows[0])
