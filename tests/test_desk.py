"""The interface: what is handed in, what is given back, and that nothing is kept."""

import unittest

from arraydesk.desk import answers
from helper import DeskCase, GREATEST, ask, encoded


class Watched(list):
    """A list that can only be looked at."""

    def refuse(self, *arguments, **named):
        raise AssertionError("what was handed in was changed")

    append = extend = insert = pop = remove = clear = sort = reverse = refuse
    __setitem__ = __delitem__ = __iadd__ = __imul__ = refuse


EVERY_CALL = [
    ("make", 0, [2, 3], [1, 2, 3, 4, 5, 6]),
    ("fill", 1, 7, [3]),
    ("count", 2, 0, 2, [1, 3]),
    ("set", 0, -1, [1, 1]),
    ("at", 0, [1, 1]),
    ("spread", 3, 1, [2, 3]),
    ("cut", 4, 0, [0, 1, 1, 2, -1, 3]),
    ("put", 0, 2, [0, 1, 1, 0, 1, 3]),
    ("turn", 5, 0, [1, 0]),
    ("join", 6, 0, 0, 2),
    ("cells", 6),
    ("shape", 5),
    ("drop", 6),
    ("cells", 6),
    ("roll", 3, 1, -1, 0),
    ("repeat", 4, 0, 2, 1),
    ("both", 5, 1, 0, 1),
    ("fold", 6, 0, 1, 0),
    ("scan", 7, 3, 0, 0),
    ("order", 3, 1, 0),
    ("take", 3, 0, 1, 6),
    ("make", 6, [2], [1, 0]),
    ("take", 3, 1, 0, 6),
    ("pack", 4, 0, 5),
    ("land", 3, 1, 6, 6),
    ("times", 2, 3, 0),
    ("same", 2, 0),
    ("text", 3),
    ("read", 1, [91, 93, 10, 45, 53, 10]),
    ("read", 1, [91, 93, 10, 45, 48, 10]),
]


class Interface(DeskCase):
    def test_numbers_as_they_stand(self):
        calls = [1, 0, 2, 2, 3, 6, 1, 2, 3, 4, 5, 6]
        calls += [2, 1, 7, 1, 3]
        calls += [3, 2, 0, 2, 2, 1, 3]
        calls += [8, 0, -1, 2, 1, 1]
        calls += [7, 0, 2, 1, 1]
        calls += [9, 3, 1, 2, 2, 3]
        calls += [10, 4, 0, 6, 0, 1, 1, 2, -1, 3]
        calls += [11, 0, 2, 6, 0, 1, 1, 0, 1, 3]
        calls += [12, 5, 0, 2, 1, 0]
        calls += [13, 6, 0, 0, 2]
        calls += [6, 6]
        calls += [5, 5]
        calls += [4, 6]
        calls += [6, 6]
        calls += [14, 3, 1, -1, 0]
        calls += [15, 4, 0, 2, 1]
        calls += [16, 5, 1, 0, 1]
        calls += [17, 6, 0, 1, 0]
        calls += [18, 7, 3, 0, 0]
        calls += [19, 3, 1, 0]
        calls += [20, 3, 0, 1, 6]
        calls += [1, 6, 1, 2, 2, 1, 0]
        calls += [20, 3, 1, 0, 6]
        calls += [21, 4, 0, 5]
        calls += [22, 3, 1, 6, 6]
        calls += [23, 2, 3, 0]
        calls += [24, 2, 0]
        calls += [25, 3]
        calls += [26, 1, 6, 91, 93, 10, 45, 53, 10]
        calls += [26, 1, 6, 91, 93, 10, 45, 48, 10]
        self.assertEqual(calls, encoded(EVERY_CALL))
        told = [3, 0, 2, 3]
        told += [2, 0, 3]
        told += [3, 0, 1, 3]
        told += [3, 0, 2, 3]
        told += [2, 0, -1]
        told += [3, 0, 2, 3]
        told += [3, 0, 1, 3]
        told += [3, 0, 2, 3]
        told += [3, 0, 3, 2]
        told += [3, 0, 3, 3]
        told += [10, 0, 0, 2, 4, 4, -1, 6, 0, 2, 4]
        told += [3, 0, 3, 2]
        told += [1, 0]
        told += [1, -2]
        told += [3, 0, 2, 3]
        told += [2, 0, 6]
        told += [3, 0, 2, 3]
        told += [2, 0, 2]
        told += [3, 0, 2, 3]
        told += [3, 0, 2, 3]
        told += [1, -4]
        told += [2, 0, 2]
        told += [3, 0, 2, 2]
        told += [2, 0, 6]
        told += [3, 0, 2, 2]
        told += [3, 0, 2, 3]
        told += [2, 0, 0]
        told += [16, 0] + list(b"[2,2]\n2 1\n-1 4\n")
        told += [1, 0]
        told += [2, -8, 4]
        self.assertEqual(answers(calls), told)

    def test_one_call(self):
        self.assertEqual(answers([4, 0]), [1, 0])
        self.assertEqual(answers([5, 0]), [1, -2])
        self.assertEqual(answers([1, 0, 0, 1, 5]), [1, 0])
        self.assertEqual(answers([1, 0, 0, 0]), [1, -1])

    def test_rank_0_tells_no_lengths(self):
        self.assertEqual(answers([1, 0, 0, 1, 5, 5, 0, 6, 0, 7, 0, 0]), [1, 0, 1, 0, 2, 0, 5, 2, 0, 5])

    def test_a_refused_call_is_read_to_its_end(self):
        for call, number in (
            (("make", 9, [5, 6, 5, 6, 4], [4, 6, 6]), -1),
            (("fill", 9, 6, [4, 6]), -1),
            (("count", 9, 6, 6, [4, 6]), -1),
            (("drop", 9), -1),
            (("shape", 9), -1),
            (("cells", 9), -1),
            (("at", 9, [4, 6]), -1),
            (("set", 9, 6, [4, 6]), -1),
            (("spread", 9, 6, [4, 6]), -1),
            (("cut", 9, 6, [4, 6]), -1),
            (("put", 9, 6, [4, 6]), -1),
            (("turn", 9, 6, [4, 6]), -1),
            (("join", 9, 6, 4, 6), -1),
            (("roll", 9, 6, 4, 6), -1),
            (("repeat", 9, 6, 4, 6), -1),
            (("both", 9, 6, 4, 6), -1),
            (("fold", 9, 6, 4, 6), -1),
            (("scan", 9, 6, 4, 6), -1),
            (("order", 9, 6, 4), -1),
            (("take", 9, 6, 4, 6), -1),
            (("pack", 9, 6, 4), -1),
            (("land", 9, 6, 4, 6), -1),
            (("times", 9, 6, 4), -1),
            (("same", 9, 6), -1),
            (("text", 9), -1),
            (("read", 9, [91, 93, 10]), -1),
            (("read", 0, [6] * 8193), -1),
            (("at", 4, [4] * 2000), -2),
            (("put", 0, 4, []), -2),
        ):
            found = ask([("make", 0, [1], [8]), call, ("cells", 0)])
            self.assertEqual(found, [[0, 1], [number], [0, 8]], call)
        found = ask([("make", 0, [1], [8]), ("read", 0, [91, 93, 10, 6, 0]), ("cells", 0)])
        self.assertEqual(found, [[0, 1], [-8, 3], [0, 8]])

    def test_every_slot_is_empty_at_the_beginning(self):
        found = ask([("cells", slot) for slot in range(8)] + [("cells", 8)])
        self.assertEqual(found, [[-2]] * 8 + [[-1]])

    def test_what_is_handed_in_is_not_changed(self):
        numbers = encoded(EVERY_CALL)
        handed = Watched(numbers)
        self.assertEqual(answers(handed), answers(numbers))
        self.assertEqual(list(handed), numbers)

    def test_what_is_given_back_is_new(self):
        numbers = encoded(EVERY_CALL)
        first = answers(numbers)
        kept = list(first)
        first.clear()
        self.assertEqual(answers(numbers), kept)
        self.assertEqual(numbers, encoded(EVERY_CALL))

    def test_nothing_is_kept(self):
        self.assertEqual(ask([("fill", slot, 1, [2]) for slot in range(8)]), [[0, 2]] * 8)
        self.assertEqual(ask([("shape", slot) for slot in range(8)]), [[-2]] * 8)
        self.assertEqual(ask(EVERY_CALL), ask(EVERY_CALL))

    def test_a_whole_list_of_the_longest_calls(self):
        full = ("make", 0, [1024], [GREATEST] * 1024)
        found = ask([full] * 15 + [("cells", 0)] * 15)
        self.assertEqual(found, [[0, 1024]] * 15 + [[0] + [GREATEST] * 1024] * 15)

    def test_thirty_calls_of_the_most_cells(self):
        setup = [("count", 0, 0, 1, [4, 4, 8, 8]), ("spread", 1, 0, [4, 4, 8, 8])]
        found = ask(setup + [("turn", 0, 0, [3, 0, 1, 2])] * 4 + [("cells", 0), ("put", 1, 0, [3, -1, 4, 3, -1, 4,
                    7, -1, 8, 7, -1, 8]), ("cells", 1)])
        self.assertEqual(found[6], [0] + list(range(1024)))
        self.assertEqual(found[8], [0] + list(range(1023, -1, -1)))


if __name__ == "__main__":
    unittest.main()
