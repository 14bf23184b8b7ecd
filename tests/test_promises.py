"""T1, T2, T3, T4, T7 over many small arrays of each rank, and all calls against a second way of answering them."""

import itertools
import random
import unittest

from arraydesk.shapes import is_place, is_shape, number_of, place_of
from helper import GREATEST, MOST_CALLS, Model, ask, dumped, places, product, small_shapes


def in_portions(setup, calls):
    """The answers to calls that are too many for one list; setup goes before each portion."""
    room = MOST_CALLS - len(setup)
    found = []
    for start in range(0, len(calls), room):
        portion = calls[start:start + room]
        found += ask(list(setup) + portion)[len(setup):]
    return found


class PlacesAndNumbers(unittest.TestCase):
    def test_t1_at_tells_the_number_of_each_place(self):
        for lengths in small_shapes(3):
            calls = [("at", 0, list(place)) for place in places(lengths)]
            found = in_portions([("count", 0, 0, 1, lengths)], calls)
            self.assertEqual(found, [[0, number] for number in range(product(lengths))], lengths)

    def test_t1_set_at_each_place_shows_at_its_number(self):
        for lengths in small_shapes(2):
            calls = []
            for number, place in enumerate(places(lengths)):
                calls.append(("set", 0, 100 + number, list(place)))
            found = ask([("fill", 0, -1, lengths)] + calls + [("cells", 0)])
            self.assertEqual(found[-1], [0] + [100 + number for number in range(product(lengths))], lengths)

    def test_t1_there_and_back(self):
        for lengths in small_shapes(4) + [[1024], [32, 32], [4, 4, 8, 8], [1, 1024], [2, 512]]:
            self.assertTrue(is_shape(lengths))
            for number, place in enumerate(places(lengths)):
                self.assertEqual(number_of(lengths, list(place)), number)
                self.assertEqual(place_of(lengths, number), list(place))
                self.assertTrue(is_place(lengths, list(place)))

    def test_no_places(self):
        for place in ([-1, 0], [0, -1], [2, 0], [0, 3], [0], [0, 0, 0], []):
            self.assertFalse(is_place([2, 3], place))


def shapes_that_spread(lengths):
    """All shapes that spread to the given one: axes left out in front, or of length 1."""
    found = []
    for ahead in range(len(lengths) + 1):
        for ones in itertools.product((False, True), repeat=len(lengths) - ahead):
            small = [1 if one else length for one, length in zip(ones, lengths[ahead:])]
            if small not in found:
                found.append(small)
    return found


class Spreading(unittest.TestCase):
    def test_t2_each_place_has_the_cell_that_the_places_tell(self):
        for great in small_shapes(3):
            for small in shapes_that_spread(great):
                found = ask([("count", 0, 1, 1, small), ("spread", 1, 0, great), ("cells", 1), ("cells", 0)])
                expected = []
                for place in places(great):
                    last = place[len(great) - len(small):]
                    own = [0 if length == 1 else number for number, length in zip(last, small)]
                    expected.append(1 + places(small).index(tuple(own)))
                self.assertEqual(found[1], [0] + great, (small, great))
                self.assertEqual(found[2], [0] + expected, (small, great))
                self.assertEqual(found[3], [0] + list(range(1, 1 + product(small))))

    def test_t2_nothing_else_spreads(self):
        shapes = small_shapes(2) + [[3], [3, 2], [2, 3], [3, 1, 2], [1, 3, 1, 2]]
        for great in shapes:
            fitting = shapes_that_spread(great)
            calls = []
            for small in shapes:
                calls += [("fill", 0, 1, small), ("spread", 1, 0, great)]
            found = in_portions([], calls)[1::2]
            self.assertEqual(found, [[0] + great if small in fitting else [-3] for small in shapes], great)


def whole_cuts(lengths):
    return [number for length in lengths for number in (0, 1, length)]


def some_cuts(draw, lengths, twice):
    cuts = []
    for length in lengths:
        start = draw.randrange(length)
        step = draw.choice([-2, -1, 1, 2] + [0] * twice)
        most = 3 if step == 0 else 1 + ((length - 1 - start) // step if step > 0 else start // -step)
        cuts += [start, step, draw.randint(1, most)]
    return cuts


class PuttingAndCutting(unittest.TestCase):
    def test_t3_what_is_put_is_cut_again_and_nothing_else_changes(self):
        draw = random.Random(3)
        for lengths in small_shapes(3):
            for turn in range(4):
                cuts = some_cuts(draw, lengths, 0)
                counts = cuts[2::3]
                found = ask([
                    ("count", 0, 0, 1, lengths), ("count", 1, 1000, 1, counts), ("cut", 2, 0, cuts), ("cells", 2),
                    ("put", 0, 1, cuts), ("cut", 3, 0, cuts), ("shape", 3), ("cells", 3), ("cells", 0), ("cells", 1),
                ])
                section = found[3][1:]
                put = list(range(1000, 1000 + product(counts)))
                self.assertEqual(found[4], [0] + lengths)
                self.assertEqual(found[6], [0] + counts)
                self.assertEqual(found[7], [0] + put)
                self.assertEqual(found[9], [0] + put)
                for number, cell in enumerate(found[8][1:]):
                    if number in section:
                        self.assertEqual(cell, 1000 + section.index(number))
                    else:
                        self.assertEqual(cell, number)

    def test_t3_what_is_cut_is_put_back(self):
        draw = random.Random(4)
        for lengths in small_shapes(3):
            cuts = some_cuts(draw, lengths, 2)
            found = ask([("count", 0, 5, 3, lengths), ("cells", 0), ("cut", 1, 0, cuts), ("put", 0, 1, cuts),
                         ("cells", 0), ("cut", 2, 0, whole_cuts(lengths)), ("cells", 2)])
            self.assertEqual(found[1], found[4])
            self.assertEqual(found[1], found[6])


class TurningAndJoining(unittest.TestCase):
    def test_t4_turned_and_turned_back(self):
        for lengths in small_shapes(3):
            for axes in itertools.permutations(range(len(lengths))):
                back = [axes.index(axis) for axis in range(len(axes))]
                found = ask([("count", 0, 1, 1, lengths), ("turn", 1, 0, list(axes)), ("turn", 2, 1, back),
                             ("shape", 2), ("cells", 2), ("cells", 1)])
                turned = [lengths[axis] for axis in axes]
                self.assertEqual(found[1], [0] + turned)
                self.assertEqual(found[3], [0] + lengths)
                self.assertEqual(found[4], [0] + list(range(1, 1 + product(lengths))))
                for place, cell in zip(places(turned), found[5][1:]):
                    before = tuple(place[axes.index(axis)] for axis in range(len(axes)))
                    self.assertEqual(cell, 1 + places(lengths).index(before))

    def test_t4_joined_parts_are_cut_out_again(self):
        for lengths in small_shapes(3):
            for axis in range(len(lengths)):
                for behind in (1, 2, 4):
                    second = lengths[:axis] + [behind] + lengths[axis + 1:]
                    joined = lengths[:axis] + [lengths[axis] + behind] + lengths[axis + 1:]
                    later = whole_cuts(second)
                    later[3 * axis] = lengths[axis]
                    found = ask([("count", 0, 1, 1, lengths), ("count", 1, -1, -1, second), ("join", 2, axis, 0, 1),
                                 ("cut", 3, 2, whole_cuts(lengths)), ("cut", 4, 2, later), ("shape", 3), ("cells", 3),
                                 ("shape", 4), ("cells", 4)])
                    self.assertEqual(found[2], [0] + joined)
                    self.assertEqual(found[5], [0] + lengths)
                    self.assertEqual(found[6], [0] + list(range(1, 1 + product(lengths))))
                    self.assertEqual(found[7], [0] + second)
                    self.assertEqual(found[8], [0] + list(range(-1, -1 - product(second), -1)))


class Drawn:
    """Calls drawn by lot, mostly such as may be, with now and then a number that may not."""

    def __init__(self, seed):
        self.draw = random.Random(seed)
        self.model = Model()

    def slot(self):
        if self.draw.random() < 0.04:
            return self.draw.choice([8, 9, 2 ** 32 - 1])
        return self.draw.randrange(8)

    def source(self):
        if self.model.slots and self.draw.random() < 0.9:
            return self.draw.choice(sorted(self.model.slots))
        return self.slot()

    def shape_of(self, i):
        return list(self.model.slots[i][0]) if i in self.model.slots else []

    def lengths(self):
        chance = self.draw.random()
        if chance < 0.06:
            return self.draw.choice([[0], [1] * 5, [2, 0], [1025], [40, 40], [2 ** 32 - 1] * 4])
        if chance < 0.1:
            return self.draw.choice([[1024], [32, 32], [4, 4, 8, 8], [64, 1, 16]])
        return [self.draw.randint(1, 3) for axis in range(self.draw.randrange(5))]

    def cell(self):
        if self.draw.random() < 0.05:
            bound = self.draw.choice([-1, 1]) * GREATEST
            return bound + self.draw.choice([-1, 0, 1])
        return self.draw.randint(-50, 50)

    def place(self, i):
        place = [self.draw.randrange(length) for length in self.shape_of(i)]
        if self.draw.random() < 0.15:
            place.append(0)
        if place and self.draw.random() < 0.15:
            place[self.draw.randrange(len(place))] += 1
        return place

    def cuts(self, i):
        cuts = some_cuts(self.draw, self.shape_of(i), 2)
        if self.draw.random() < 0.08:
            for axis in range(len(self.shape_of(i))):
                cuts[3 * axis + 1:3 * axis + 3] = [0, self.draw.choice([1, 8, 32, 512, 1024])]
        if cuts and self.draw.random() < 0.25:
            cuts[self.draw.randrange(len(cuts))] += self.draw.choice([-3, -1, 1, 3, 1024, 2 ** 40])
        if self.draw.random() < 0.04:
            cuts.append(1)
        return cuts

    def make(self):
        lengths = self.lengths()
        size = min(product(lengths), 1024) + (self.draw.random() < 0.05)
        return ("make", self.slot(), lengths, [self.cell() for number in range(size)])

    def spread(self):
        i = self.source()
        lengths = [length if length > 1 else self.draw.randint(1, 3) for length in self.shape_of(i)]
        if self.draw.random() < 0.3:
            lengths = [self.draw.randint(0, 2)] + lengths
        if self.draw.random() < 0.15:
            lengths = self.lengths()
        return ("spread", self.slot(), i, lengths)

    def put(self):
        i = self.source()
        cuts = self.cuts(i)
        fitting = [j for j in sorted(self.model.slots) if self.shape_of(j) == cuts[2::3]]
        j = self.draw.choice(fitting) if fitting and self.draw.random() < 0.8 else self.source()
        return ("put", i, j, cuts)

    def turn(self):
        i = self.source()
        axes = list(range(len(self.shape_of(i))))
        self.draw.shuffle(axes)
        if axes and self.draw.random() < 0.15:
            axes[0] = self.draw.randrange(5)
        return ("turn", self.slot(), i, axes)

    def join(self):
        i = self.source()
        axis = self.draw.randrange(1 + len(self.shape_of(i)))
        j = i if self.draw.random() < 0.4 else self.source()
        return ("join", self.slot(), axis, i, j)

    def call(self):
        name = self.draw.choice(["make", "fill", "count", "drop", "shape", "cells", "at", "set", "spread", "cut",
                                 "put", "turn", "join", "cut", "put", "spread", "cells"])
        if name == "fill":
            return (name, self.slot(), self.cell(), self.lengths())
        if name == "count":
            return (name, self.slot(), self.cell(), self.cell(), self.lengths())
        if name == "drop":
            return (name, self.slot())
        if name in ("shape", "cells"):
            return (name, self.source())
        i = self.source()
        if name == "at":
            return (name, i, self.place(i))
        if name == "set":
            return (name, i, self.cell(), self.place(i))
        if name == "cut":
            return (name, self.slot(), i, self.cuts(i))
        return getattr(self, name)()

    def calls(self, size):
        """As many calls, and what the model answers to each."""
        calls = []
        expected = []
        for turn in range(size):
            call = self.call()
            calls.append(call)
            expected.append(self.model.answer(*call))
        return calls, expected


class DrawnByLot(unittest.TestCase):
    def test_as_the_model_answers(self):
        seen = {}
        for seed in range(1500):
            drawn = Drawn(seed)
            calls, expected = drawn.calls(22)
            for slot in range(8):
                calls.append(("cells", slot))
                expected.append(drawn.model.answer("cells", slot))
            self.assertEqual(ask(calls), expected, (seed, calls))
            for call, answer in zip(calls, expected):
                seen[(call[0], min(answer[0], 0))] = True
        # The draw must reach each refusal of each call, or it shows less than it seems to.
        for name, numbers in (
            ("make", (0, -1)), ("fill", (0, -1)), ("count", (0, -1, -6)), ("drop", (0, -1)), ("shape", (0, -1, -2)),
            ("cells", (0, -1, -2)), ("at", (0, -1, -2, -4)), ("set", (0, -1, -2, -4)), ("spread", (0, -1, -2, -3)),
            ("cut", (0, -1, -2, -4, -6)), ("put", (0, -1, -2, -3, -4)), ("turn", (0, -1, -2)),
            ("join", (0, -1, -2, -3, -6)),
        ):
            self.assertEqual(sorted(n for called, n in seen if called == name), sorted(numbers), name)

    def test_t7_a_refusal_changes_nothing_and_a_call_one_slot_at_most(self):
        for seed in range(5000, 5120):
            calls, expected = Drawn(seed).calls(14)
            before = dumped([])
            for size, answer in enumerate(expected, start=1):
                after = dumped(calls[:size])
                changed = [slot for slot in range(8) if before[slot] != after[slot]]
                self.assertLessEqual(len(changed), 0 if answer[0] < 0 else 1, calls[:size])
                if calls[size - 1][0] in ("shape", "cells", "at"):
                    self.assertEqual(changed, [], calls[:size])
                elif changed:
                    self.assertEqual(changed, [calls[size - 1][1]], calls[:size])
                before = after


if __name__ == "__main__":
    unittest.main()
