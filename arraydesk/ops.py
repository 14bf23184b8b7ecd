"""What is reckoned of two cells and of a row; None stands for a cell that there is none of."""

from arraydesk.arrays import is_cell

SUM = 0
DIFFERENCE = 1
PRODUCT = 2
LEAST = 3
MOST = 4
QUOTIENT = 5
REST = 6
BELOW = 7
GREATEST_OP = 8

# The op of each fold: sum, product, least, most.
FOLD_OPS = (0, 2, 3, 4)


def op_value(op, x, y):
    """The op of two cells, maybe beyond a cell."""
    if op == SUM:
        return x + y
    if op == DIFFERENCE:
        return x - y
    if op == PRODUCT:
        return x * y
    if op == LEAST:
        return min(x, y)
    if op == MOST:
        return max(x, y)
    if op == QUOTIENT:
        return None if y == 0 else x // y
    if op == REST:
        return None if y == 0 else x - y * (x // y)
    if op == BELOW:
        return 1 if x < y else 0
    return 1 if x == y else 0


def op_cell(op, x, y):
    """The op of two cells; where there is none of x or y, there is none of it either."""
    if x is None or y is None:
        return None
    value = op_value(op, x, y)
    if value is None or not is_cell(value):
        return None
    return value


def scanned_row(f, row):
    """The folds of a row's cells up to each one."""
    folds = [row[0]]
    for cell in row[1:]:
        folds.append(op_cell(FOLD_OPS[f], folds[-1], cell))
    return folds


def folded_row(f, row):
    return scanned_row(f, row)[-1]
