"""The calls that tell an array as text and read it again: text and read, 25 and 26.

A text is read byte by byte, and never past a byte that no array's text could go on with:
so what was read of a text that is none is the fault.
"""

from arraydesk.arrays import Array, GREATEST_CELL
from arraydesk.reader import Reader
from arraydesk.refusals import NO_TEXT, WRONG
from arraydesk.shapes import MOST_CELLS, MOST_LENGTHS, cell_count
from arraydesk.slots import keep, source_refusal, target_refusal

MOST_BYTES = 8192


def line_size(lengths):
    """How many cells stand on a line: a row of the last axis, of rank 0 the one cell."""
    if len(lengths) == 0:
        return 1
    return lengths[-1]


def text_of(array):
    lines = ["[" + ",".join([str(length) for length in array.lengths]) + "]\n"]
    size = line_size(array.lengths)
    for start in range(0, len(array.cells), size):
        lines.append(" ".join([str(cell) for cell in array.cells[start:start + size]]) + "\n")
    return "".join(lines)


def next_digit(reader):
    byte = reader.upcoming()
    if byte is None or byte < ord("0") or byte > ord("9"):
        return None
    return byte - ord("0")


def read_number(reader, least, most):
    """A number from least, which is 0 or 1, to most; or None."""
    number = next_digit(reader)
    if number is None or number < least or number > most:
        return None
    reader.read_whole()
    digit = next_digit(reader)
    # Behind a nought in front stands no digit.
    while number > 0 and digit is not None and number * 10 + digit <= most:
        number = number * 10 + digit
        reader.read_whole()
        digit = next_digit(reader)
    return number


def read_lengths(reader):
    """The lengths with their brackets, or None."""
    if not reader.passes(ord("[")):
        return None
    if reader.passes(ord("]")):
        return []
    lengths = []
    while len(lengths) == 0 or (len(lengths) < MOST_LENGTHS and reader.passes(ord(","))):
        length = read_number(reader, 1, MOST_CELLS // cell_count(lengths))
        if length is None:
            return None
        lengths.append(length)
    if not reader.passes(ord("]")):
        return None
    return lengths


def read_cell(reader):
    if not reader.passes(ord("-")):
        return read_number(reader, 0, GREATEST_CELL)
    number = read_number(reader, 1, GREATEST_CELL)
    return None if number is None else -number


def read_cells(reader, lengths):
    """All cells with what stands behind each, or None."""
    size = line_size(lengths)
    cells = []
    for number in range(1, cell_count(lengths) + 1):
        cell = read_cell(reader)
        behind = ord("\n") if number % size == 0 else ord(" ")
        if cell is None or not reader.passes(behind):
            return None
        cells.append(cell)
    return cells


def read_array(reader):
    """The array whose text this is, or None."""
    lengths = read_lengths(reader)
    if lengths is None or not reader.passes(ord("\n")):
        return None
    cells = read_cells(reader, lengths)
    if cells is None or not reader.is_done():
        return None
    return Array(lengths, cells)


def call_text(slots, i):
    refusal = source_refusal(slots, i)
    if refusal != 0:
        return [refusal]
    return [0] + [ord(sign) for sign in text_of(slots[i])]


def call_read(slots, k, text):
    refusal = target_refusal(k)
    if refusal != 0:
        return [refusal]
    if len(text) > MOST_BYTES:
        return [WRONG]
    reader = Reader(text)
    array = read_array(reader)
    if array is None:
        return [NO_TEXT, reader.reached]
    return keep(slots, k, array)


def text_answer(slots, call, wholes, rows):
    if call == 25:
        return call_text(slots, wholes[0])
    return call_read(slots, wholes[0], rows[0])
