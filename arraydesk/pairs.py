"""The calls of two arrays as wholes: times and same, 23 and 24."""

from arraydesk.arrays import Array
from arraydesk.ops import PRODUCT, SUM, op_cell
from arraydesk.refusals import BEYOND, UNLIKE
from arraydesk.rows import rows_of
from arraydesk.shapes import is_shape
from arraydesk.slots import keep_reckoned, slots_refusal, sources_refusal


def tables_fit(first, second):
    return len(first) == 2 and len(second) == 2 and first[1] == second[0]


def product_sum(row, column):
    total = 0
    for x, y in zip(row, column):
        total = op_cell(SUM, total, op_cell(PRODUCT, x, y))
    return total


def multiplied_cells(first, second):
    columns = rows_of(second, 0)
    cells = []
    for row in rows_of(first, 1):
        cells.extend([product_sum(row, column) for column in columns])
    return cells


def call_times(slots, k, i, j):
    refusal = slots_refusal(slots, k, [i, j])
    if refusal != 0:
        return [refusal]
    first = slots[i]
    second = slots[j]
    if not tables_fit(first.lengths, second.lengths):
        return [UNLIKE]
    lengths = [first.lengths[0], second.lengths[1]]
    if not is_shape(lengths):
        return [BEYOND]
    return keep_reckoned(slots, k, Array(lengths, multiplied_cells(first, second)))


def call_same(slots, i, j):
    refusal = sources_refusal(slots, [i, j])
    if refusal != 0:
        return [refusal]
    are_same = slots[i].lengths == slots[j].lengths and slots[i].cells == slots[j].cells
    return [0, 1 if are_same else 0]


def pair_answer(slots, call, wholes):
    if call == 23:
        return call_times(slots, wholes[0], wholes[1], wholes[2])
    return call_same(slots, wholes[0], wholes[1])
