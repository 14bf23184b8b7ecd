"""The calls that reckon cell by cell, or along an axis: both, fold and scan, 16 to 18."""

from arraydesk.arrays import Array
from arraydesk.ops import FOLD_OPS, GREATEST_OP, folded_row, op_cell, scanned_row
from arraydesk.refusals import BEYOND, UNLIKE, WRONG
from arraydesk.rows import array_of_rows, rows_of
from arraydesk.shapes import is_shape, without_axis
from arraydesk.slots import axis_refusal, keep_reckoned, slots_refusal
from arraydesk.spreading import meeting_lengths, spread_array


def reckoned_array(op, first, second, lengths):
    """The op of both arrays' cells, spread to these lengths."""
    ahead = spread_array(first, lengths).cells
    behind = spread_array(second, lengths).cells
    return Array(lengths, [op_cell(op, x, y) for x, y in zip(ahead, behind)])


def fold_refusal(slots, k, f, axis, i):
    refusal = axis_refusal(slots, k, [i], axis)
    if refusal != 0:
        return refusal
    if f >= len(FOLD_OPS):
        return WRONG
    return 0


def call_both(slots, k, op, i, j):
    refusal = slots_refusal(slots, k, [i, j])
    if refusal != 0:
        return [refusal]
    if op > GREATEST_OP:
        return [WRONG]
    lengths = meeting_lengths(slots[i].lengths, slots[j].lengths)
    if lengths is None:
        return [UNLIKE]
    if not is_shape(lengths):
        return [BEYOND]
    return keep_reckoned(slots, k, reckoned_array(op, slots[i], slots[j], lengths))


def call_fold(slots, k, f, axis, i):
    refusal = fold_refusal(slots, k, f, axis, i)
    if refusal != 0:
        return [refusal]
    folds = [folded_row(f, row) for row in rows_of(slots[i], axis)]
    return keep_reckoned(slots, k, Array(without_axis(slots[i].lengths, axis), folds))


def call_scan(slots, k, f, axis, i):
    refusal = fold_refusal(slots, k, f, axis, i)
    if refusal != 0:
        return [refusal]
    rows = [scanned_row(f, row) for row in rows_of(slots[i], axis)]
    return keep_reckoned(slots, k, array_of_rows(slots[i].lengths, axis, rows))


def reckoning_answer(slots, call, wholes):
    if call == 16:
        return call_both(slots, wholes[0], wholes[1], wholes[2], wholes[3])
    if call == 17:
        return call_fold(slots, wholes[0], wholes[1], wholes[2], wholes[3])
    return call_scan(slots, wholes[0], wholes[1], wholes[2], wholes[3])
