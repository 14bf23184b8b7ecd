"""What the tests share: calls written by name, a second way of answering them, and small shapes."""

import fractions
import functools
import itertools
import math
import unittest

from arraydesk.desk import answers

NUMBERS = {
    "make": 1, "fill": 2, "count": 3, "drop": 4, "shape": 5, "cells": 6, "at": 7, "set": 8,
    "spread": 9, "cut": 10, "put": 11, "turn": 12, "join": 13, "roll": 14, "repeat": 15, "both": 16, "fold": 17,
    "scan": 18, "order": 19, "take": 20, "pack": 21, "land": 22, "times": 23, "same": 24, "text": 25, "read": 26,
}
GREATEST = 10 ** 15
INT64_LEAST = -2 ** 63
INT64_MOST = 2 ** 63 - 1
WORD_MOST = 2 ** 32 - 1
MOST_CALLS = 30


def encoded(calls):
    numbers = []
    for name, *arguments in calls:
        numbers.append(NUMBERS[name])
        for argument in arguments:
            if isinstance(argument, int):
                numbers.append(argument)
            else:
                numbers.append(len(argument))
                numbers.extend(argument)
    return numbers


def decoded(told):
    found = []
    at = 0
    while at < len(told):
        size = told[at]
        assert size >= 1 and at + 1 + size <= len(told), told
        found.append(told[at + 1:at + 1 + size])
        at += 1 + size
    return found


def ask(calls):
    """The answers to calls, each one as a list; what is handed in must keep to the document's bounds."""
    assert 1 <= len(calls) <= MOST_CALLS, len(calls)
    handed = encoded(calls)
    assert len(handed) <= 16000, len(handed)
    kept = list(handed)
    told = answers(handed)
    assert handed == kept, "what was handed in was changed"
    assert all(type(number) is int for number in told)
    found = decoded(told)
    assert len(found) == len(calls)
    return found


DUMP = [(name, slot) for slot in range(8) for name in ("shape", "cells")]


def dumped(setup):
    """Shape and cells of each slot after the calls of setup."""
    found = ask(list(setup) + DUMP)[len(setup):]
    return [(found[2 * slot], found[2 * slot + 1]) for slot in range(8)]


class DeskCase(unittest.TestCase):
    def answer(self, setup, *call):
        return ask(list(setup) + [call])[-1]

    def refused(self, number, setup, *call):
        """The call is refused by that number alone, and changes no slot."""
        self.assertEqual(self.answer(setup, *call), [number], call)
        self.assertEqual(dumped(list(setup) + [call]), dumped(setup), call)

    def made(self, slot, lengths, cells, setup, *call):
        """The call tells the lengths, its slot has the cells, and no other slot changes."""
        self.assertEqual(self.answer(setup, *call), [0] + lengths, call)
        before = dumped(setup)
        after = dumped(list(setup) + [call])
        self.assertEqual(after[slot], ([0] + lengths, [0] + cells), call)
        for other in range(8):
            if other != slot:
                self.assertEqual(after[other], before[other], call)

    def told(self, expected, setup, *call):
        """The call tells that, and changes no slot."""
        self.assertEqual(self.answer(setup, *call), [0] + expected, call)
        self.assertEqual(dumped(list(setup) + [call]), dumped(setup), call)


    def faulty(self, fault, setup, k, text):
        """The text is refused with that fault, and changes no slot."""
        call = ("read", k, as_bytes(text))
        self.assertEqual(self.answer(setup, *call), [-8, fault], text)
        self.assertEqual(dumped(list(setup) + [call]), dumped(setup), text)


def as_bytes(text):
    return list(text.encode("latin-1"))


def places(lengths):
    return list(itertools.product(*[range(length) for length in lengths]))


def small_shapes(most):
    """All shapes of rank 0 to 4 with lengths from 1 to most."""
    return [list(lengths) for rank in range(5) for lengths in itertools.product(range(1, most + 1), repeat=rank)]


def product(lengths):
    cells = 1
    for length in lengths:
        cells *= length
    return cells


def is_shape(lengths):
    return len(lengths) <= 4 and all(length >= 1 for length in lengths) and product(lengths) <= 1024


def text_of(lengths, cells):
    """An array's text, its lines put together by their places."""
    lines = itertools.groupby(zip(places(lengths), cells), key=lambda pair: pair[0][:-1])
    told = [" ".join("%d" % cell for place, cell in line) for start, line in lines]
    return "\n".join(["[" + ",".join("%d" % length for length in lengths) + "]"] + told + [""])


def loose_lengths(text):
    return [int(part) for part in text.strip("[]").split(",") if part]


def told_by(text):
    """The lengths and cells of the array that has just this text, or None."""
    try:
        head, body = text.split("\n", 1)
        lengths = loose_lengths(head)
        cells = [int(part) for part in body.split()]
    except ValueError:
        return None
    if not is_shape(lengths) or len(cells) != product(lengths) or any(abs(cell) > GREATEST for cell in cells):
        return None
    return (lengths, cells) if text_of(lengths, cells) == text else None


def filled_up(text):
    """A text with its lengths, and with noughts for the cells that are missing; or None."""
    head, body = text.split("\n", 1)
    try:
        lengths = loose_lengths(head)
    except ValueError:
        return None
    if not is_shape(lengths):
        return None
    size = product(lengths)
    width = ([1] + lengths)[-1]
    ended = body.count(" ") + body.count("\n")
    missing = ["" if body[-1:] not in ("", " ", "\n") else "0"] + ["0"] * size
    ends = ["\n" if number % width == width - 1 else " " for number in range(size)]
    return text + "".join(cell + end for cell, end in zip(missing, ends[ended:]))


def begins_a_text(start):
    """Whether some array's text begins so: a way to go on is looked for, and what it comes to is asked of told_by."""
    heads = [start] if "\n" in start else [start + tail for tail in ("[]\n", "]\n", "1]\n", "\n")]
    for head in heads:
        for tail in ("", "1"):
            filled = filled_up(head + tail)
            if filled is not None and told_by(filled) is not None:
                return True
    return False


def fault_of(text):
    """How many bytes of a text some array's text begins with: with fewer it begins so too."""
    sure = 0
    left = len(text)
    while sure < left:
        middle = (sure + left + 1) // 2
        if begins_a_text(text[:middle]):
            sure = middle
        else:
            left = middle - 1
    return sure


OPS = [
    lambda x, y: x + y,
    lambda x, y: x - y,
    lambda x, y: x * y,
    lambda x, y: sorted([x, y])[0],
    lambda x, y: sorted([x, y])[1],
    lambda x, y: math.floor(fractions.Fraction(x, y)),
    lambda x, y: x - y * math.floor(fractions.Fraction(x, y)),
    lambda x, y: int(x - y < 0),
    lambda x, y: int(x - y == 0),
]


class Refused(Exception):
    pass


def check(holds, *numbers):
    if not holds:
        raise Refused(*numbers)


def reckoned(op, x, y):
    check(op not in (5, 6) or y != 0, -6)
    value = OPS[op](x, y)
    check(abs(value) <= GREATEST, -6)
    return value


def moved(place, axis, number):
    return tuple(place[:axis]) + (number,) + tuple(place[axis + 1:])


class Model:
    """Answers the calls by tables from places to cells, never by cells' numbers."""

    def __init__(self):
        self.slots = {}

    def answer(self, name, *arguments):
        try:
            return [0] + getattr(self, "call_" + name)(*arguments)
        except Refused as refused:
            return list(refused.args)

    def target(self, k):
        check(k <= 7, -1)

    def source(self, i):
        check(i <= 7, -1)
        check(i in self.slots, -2)
        return self.slots[i]

    def keep(self, k, lengths, cells):
        self.slots[k] = (list(lengths), dict(zip(places(lengths), cells)))
        return list(lengths)

    def call_make(self, k, lengths, cells):
        self.target(k)
        check(is_shape(lengths) and len(cells) == product(lengths), -1)
        check(all(abs(cell) <= GREATEST for cell in cells), -1)
        return self.keep(k, lengths, cells)

    def call_fill(self, k, v, lengths):
        self.target(k)
        check(is_shape(lengths) and abs(v) <= GREATEST, -1)
        return self.keep(k, lengths, [v] * product(lengths))

    def call_count(self, k, start, step, lengths):
        self.target(k)
        check(is_shape(lengths) and abs(start) <= GREATEST and abs(step) <= GREATEST, -1)
        cells = [start + step * number for number in range(product(lengths))]
        check(all(abs(cell) <= GREATEST for cell in cells), -6)
        return self.keep(k, lengths, cells)

    def call_drop(self, k):
        self.target(k)
        self.slots.pop(k, None)
        return []

    def call_shape(self, i):
        return list(self.source(i)[0])

    def call_cells(self, i):
        lengths, table = self.source(i)
        return [table[place] for place in places(lengths)]

    def call_at(self, i, place):
        table = self.source(i)[1]
        check(tuple(place) in table, -4)
        return [table[tuple(place)]]

    def call_set(self, i, v, place):
        lengths, table = self.source(i)
        check(abs(v) <= GREATEST, -1)
        check(tuple(place) in table, -4)
        table[tuple(place)] = v
        return list(lengths)

    def call_spread(self, k, i, lengths):
        self.target(k)
        old, table = self.source(i)
        check(is_shape(lengths), -1)
        check(len(old) <= len(lengths), -3)
        check(all(a in (1, b) for a, b in zip(old[::-1], lengths[::-1])), -3)
        cells = []
        for place in places(lengths):
            last = place[len(lengths) - len(old):]
            cells.append(table[tuple(number % length for number, length in zip(last, old))])
        return self.keep(k, lengths, cells)

    def section(self, lengths, cuts, too_many):
        """The places of a section, in its order, and its lengths."""
        check(len(cuts) == 3 * len(lengths), -1)
        counts = cuts[2::3]
        check(all(1 <= count <= 1024 for count in counts), -1)
        check(not too_many or product(counts) <= 1024, -6)
        walks = [[cuts[3 * axis] + cuts[3 * axis + 1] * n for n in range(counts[axis])] for axis in range(len(counts))]
        check(all(0 <= at < length for walk, length in zip(walks, lengths) for at in walk), -4)
        return itertools.product(*walks), counts

    def call_cut(self, k, i, cuts):
        self.target(k)
        lengths, table = self.source(i)
        found, counts = self.section(lengths, cuts, True)
        return self.keep(k, counts, [table[place] for place in found])

    def call_put(self, i, j, cuts):
        lengths, table = self.source(i)
        part = self.source(j)
        found, counts = self.section(lengths, cuts, False)
        check(part[0] == counts, -3)
        table.update(zip(found, self.call_cells(j)))
        return list(lengths)

    def call_turn(self, k, i, axes):
        self.target(k)
        old, table = self.source(i)
        check(len(axes) == len(old) and set(axes) == set(range(len(old))), -1)
        lengths = [old[axis] for axis in axes]
        turned = {tuple(place[axis] for axis in axes): cell for place, cell in table.items()}
        return self.keep(k, lengths, [turned[place] for place in places(lengths)])

    def call_join(self, k, axis, i, j):
        self.target(k)
        first, table = self.source(i)
        second, behind = self.source(j)
        check(axis < len(first), -1)
        check(len(first) == len(second), -3)
        check(all(n == axis or first[n] == second[n] for n in range(len(first))), -3)
        lengths = list(first)
        lengths[axis] += second[axis]
        check(product(lengths) <= 1024, -6)
        joined = dict(table)
        for place, cell in behind.items():
            joined[place[:axis] + (place[axis] + first[axis],) + place[axis + 1:]] = cell
        return self.keep(k, lengths, [joined[place] for place in places(lengths)])

    def call_roll(self, k, axis, by, i):
        self.target(k)
        lengths, table = self.source(i)
        check(axis < len(lengths), -1)
        rolled = {moved(place, axis, (place[axis] + by) % lengths[axis]): cell for place, cell in table.items()}
        return self.keep(k, lengths, [rolled[place] for place in places(lengths)])

    def call_repeat(self, k, axis, times, i):
        self.target(k)
        old, table = self.source(i)
        check(axis < len(old), -1)
        check(1 <= times <= 1024, -1)
        lengths = list(moved(old, axis, old[axis] * times))
        check(product(lengths) <= 1024, -6)
        return self.keep(k, lengths, [table[moved(p, axis, p[axis] % old[axis])] for p in places(lengths)])

    def call_both(self, k, op, i, j):
        self.target(k)
        first, table = self.source(i)
        second, other = self.source(j)
        check(op <= 8, -1)
        pairs = list(itertools.zip_longest(first[::-1], second[::-1], fillvalue=1))[::-1]
        check(all(len({a, b} - {1}) < 2 for a, b in pairs), -3)
        lengths = [a * b if 1 in (a, b) else a for a, b in pairs]
        check(product(lengths) <= 1024, -6)
        cells = []
        for place in places(lengths):
            x = table[tuple(n % length for n, length in zip(place[len(place) - len(first):], first))]
            y = other[tuple(n % length for n, length in zip(place[len(place) - len(second):], second))]
            cells.append(reckoned(op, x, y))
        return self.keep(k, lengths, cells)

    def rows(self, lengths, table, axis):
        """Each row of an axis, by its places without the axis."""
        rows = {}
        for place in places(lengths):
            rows.setdefault(place[:axis] + place[axis + 1:], []).append(table[place])
        return rows

    def scanned(self, k, f, axis, i):
        self.target(k)
        lengths, table = self.source(i)
        check(axis < len(lengths), -1)
        check(f <= 3, -1)
        step = functools.partial(reckoned, (0, 2, 3, 4)[f])
        rows = self.rows(lengths, table, axis)
        return lengths, {others: list(itertools.accumulate(row, step)) for others, row in rows.items()}

    def call_fold(self, k, f, axis, i):
        lengths, rows = self.scanned(k, f, axis, i)
        others = lengths[:axis] + lengths[axis + 1:]
        return self.keep(k, others, [rows[place][-1] for place in places(others)])

    def call_scan(self, k, f, axis, i):
        lengths, rows = self.scanned(k, f, axis, i)
        cells = [rows[place[:axis] + place[axis + 1:]][place[axis]] for place in places(lengths)]
        return self.keep(k, lengths, cells)

    def call_order(self, k, axis, i):
        self.target(k)
        lengths, table = self.source(i)
        check(axis < len(lengths), -1)
        rows = self.rows(lengths, table, axis)
        ordered = {}
        for place, cell in table.items():
            row = rows[place[:axis] + place[axis + 1:]]
            ahead = sum(other < cell for other in row) + row[:place[axis]].count(cell)
            ordered[moved(place, axis, ahead)] = place[axis]
        return self.keep(k, lengths, [ordered[place] for place in places(lengths)])

    def call_take(self, k, axis, i, j):
        self.target(k)
        old, table = self.source(i)
        ranks, numbers = self.source(j)
        check(axis < len(old), -1)
        check(len(ranks) == 1, -3)
        check(all(0 <= number < old[axis] for number in numbers.values()), -4)
        lengths = list(moved(old, axis, ranks[0]))
        check(product(lengths) <= 1024, -6)
        return self.keep(k, lengths, [table[moved(p, axis, numbers[(p[axis],)])] for p in places(lengths)])

    def call_pack(self, k, i, j):
        self.target(k)
        lengths, table = self.source(i)
        others, mask = self.source(j)
        check(lengths == others, -3)
        cells = [table[place] for place in places(lengths) if mask[place]]
        check(cells, -5)
        return self.keep(k, [len(cells)], cells)

    def call_land(self, i, mode, j, l):
        lengths, table = self.source(i)
        where, numbers = self.source(j)
        others, landing = self.source(l)
        check(mode <= 3, -1)
        check(where == others, -3)
        check(all(0 <= number < product(lengths) for number in numbers.values()), -4)
        landed = dict(table)
        for place in places(where):
            on = places(lengths)[numbers[place]]
            landed[on] = landing[place] if mode == 0 else reckoned((0, 3, 4)[mode - 1], landed[on], landing[place])
        return self.keep(i, lengths, [landed[place] for place in places(lengths)])

    def call_times(self, k, i, j):
        self.target(k)
        first, table = self.source(i)
        second, other = self.source(j)
        check(len(first) == 2 and len(second) == 2 and first[1] == second[0], -3)
        lengths = [first[0], second[1]]
        check(product(lengths) <= 1024, -6)
        cells = []
        for r, c in places(lengths):
            products = [reckoned(2, table[(r, n)], other[(n, c)]) for n in range(first[1])]
            cells.append(functools.reduce(functools.partial(reckoned, 0), products))
        return self.keep(k, lengths, cells)

    def call_same(self, i, j):
        return [int(self.source(i) == self.source(j))]

    def call_text(self, i):
        return as_bytes(text_of(self.source(i)[0], self.call_cells(i)))

    def call_read(self, k, text):
        self.target(k)
        check(len(text) <= 8192, -1)
        wanted = bytes(text).decode("latin-1")
        told = told_by(wanted)
        if told is None:
            raise Refused(-8, fault_of(wanted))
        return self.keep(k, told[0], told[1])
