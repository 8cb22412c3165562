"""line, cut, and how lines shows them."""

import unittest
from itertools import combinations

from tests.helper import TOP, ask, last, seen

PAIRS = list(combinations(range(8), 2))
FULL = [("begin", 8)] + [("line", a, b, 50) for a, b in PAIRS[:14]]


def shown(lines):
    return [len(lines)] + [number for line in lines for number in line]


class Line(unittest.TestCase):
    def test_answers_how_many_marks(self):
        self.assertEqual(ask(("begin", 3), ("line", 0, 1, 1), ("line", 1, 2, 2)), [[0], [4], [6]])

    def test_the_lesser_place_is_told_first(self):
        self.assertEqual(last(("begin", 6), ("line", 5, 2, 3), ("lines",)), [1, 2, 5, 3])
        self.assertEqual(last(("begin", 6), ("line", 2, 5, 3), ("lines",)), [1, 2, 5, 3])

    def test_shortest_and_longest(self):
        self.assertEqual(ask(("begin", 2), ("line", 0, 1, 1), ("told", 0, 1))[1:], [[3], [1]])
        self.assertEqual(ask(("begin", 2), ("line", 0, 1, 99), ("told", 0, 1))[1:], [[3], [99]])

    def test_no_such_place(self):
        for a, b in ((3, 0), (0, 3), (3, 3), (TOP, 0), (0, TOP), (TOP, TOP), (8, 1)):
            with self.subTest(a=a, b=b):
                self.assertEqual(last(("begin", 3), ("line", a, b, 5)), [-2])

    def test_out_of_range(self):
        for a, b, w in ((1, 1, 5), (0, 1, 0), (0, 1, 100), (0, 1, TOP), (2, 2, 0), (0, 1, 257)):
            with self.subTest(a=a, b=b, w=w):
                self.assertEqual(last(("begin", 3), ("line", a, b, w)), [-22])

    def test_no_such_place_ahead_of_out_of_range(self):
        for a, b, w in ((3, 3, 5), (3, 0, 0), (0, 3, 100), (TOP, TOP, TOP)):
            with self.subTest(a=a, b=b, w=w):
                self.assertEqual(last(("begin", 3), ("line", a, b, w)), [-2])

    def test_what_is_refused_changes_nothing(self):
        made = [("begin", 3), ("line", 0, 1, 4), ("order", [2, 1, 0])]
        for call in (("line", 0, 3, 1), ("line", 1, 1, 1), ("line", 0, 1, 0), ("line", 0, 1, 100)):
            with self.subTest(call=call):
                self.assertEqual(ask(*made, call, *seen(3))[4:], ask(*made, *seen(3))[3:])

    def test_a_line_takes_the_old_ones_place(self):
        for a, b in ((0, 1), (1, 0)):
            with self.subTest(a=a, b=b):
                self.assertEqual(
                    ask(("begin", 2), ("line", 0, 1, 9), ("line", a, b, 40), ("lines",), ("told", 0, 1))[2:],
                    [[3], [1, 0, 1, 40], [40]],
                )

    def test_pairs_that_share_a_place_are_other_pairs(self):
        self.assertEqual(
            last(("begin", 4), ("line", 0, 1, 9), ("line", 0, 2, 8), ("line", 1, 3, 7), ("lines",)),
            [3, 1, 3, 7, 0, 2, 8, 0, 1, 9],
        )


class Full(unittest.TestCase):
    def test_eight_places_and_fourteen_lines(self):
        self.assertEqual(last(*FULL, ("lines",)), shown([(a, b, 50) for a, b in PAIRS[:14]]))
        self.assertTrue(all(answer[0] > 0 for answer in ask(*FULL)[1:]))

    def test_a_fifteenth_is_refused(self):
        for a, b in PAIRS[14:]:
            with self.subTest(a=a, b=b):
                self.assertEqual(last(*FULL, ("line", a, b, 50)), [-28])
                self.assertEqual(last(*FULL, ("line", b, a, 50)), [-28])
        self.assertEqual(ask(*FULL, ("line", 6, 7, 1), *seen(8))[16:], ask(*FULL, *seen(8))[15:])

    def test_the_other_refusals_come_ahead(self):
        self.assertEqual(last(*FULL, ("line", 6, 8, 1)), [-2])
        self.assertEqual(last(*FULL, ("line", 8, 8, 0)), [-2])
        self.assertEqual(last(*FULL, ("line", 6, 6, 1)), [-22])
        self.assertEqual(last(*FULL, ("line", 6, 7, 0)), [-22])
        self.assertEqual(last(*FULL, ("line", 6, 7, 100)), [-22])

    def test_joined_already_it_is_not_one_too_many(self):
        for at, (a, b) in enumerate(PAIRS[:14]):
            others = [(c, d, 50) for c, d in PAIRS[:at] + PAIRS[at + 1:14]]
            for call in (("line", a, b, 7), ("line", b, a, 7)):
                with self.subTest(call=call):
                    self.assertGreater(last(*FULL, call)[0], 0)
                    self.assertEqual(last(*FULL, call, ("lines",)), shown([(a, b, 7)] + others))

    def test_there_is_room_behind_a_cut(self):
        self.assertEqual(
            last(*FULL, ("cut", 3), ("line", 6, 7, 99), ("lines",)),
            shown([(a, b, 50) for a, b in PAIRS[:3] + PAIRS[4:14]] + [(6, 7, 99)]),
        )


class Order(unittest.TestCase):
    def test_by_length_then_lesser_then_other_place(self):
        lines = [(2, 3, 1), (0, 1, 5), (0, 4, 5), (1, 2, 5), (1, 3, 5), (0, 2, 10), (0, 3, 99)]
        for turned in (lines, lines[::-1], lines[3:] + lines[:3]):
            with self.subTest(turned=turned):
                calls = [("line", b, a, w) for a, b, w in turned]
                self.assertEqual(last(("begin", 5), *calls, ("lines",)), shown(lines))


class Cut(unittest.TestCase):
    made = [("begin", 4), ("line", 2, 3, 5), ("line", 0, 1, 5), ("line", 1, 2, 3)]

    def test_by_number_in_the_lines_order(self):
        lines = [(1, 2, 3), (0, 1, 5), (2, 3, 5)]
        for i in range(3):
            with self.subTest(i=i):
                self.assertEqual(last(*self.made, ("cut", i), ("lines",)), shown(lines[:i] + lines[i + 1:]))

    def test_answers_how_many_marks(self):
        self.assertEqual(ask(*self.made, ("cut", 0), ("cut", 0), ("cut", 0), ("lines",))[4:], [[6], [5], [4], [0]])

    def test_no_such_line(self):
        for i in (3, 4, 14, TOP):
            with self.subTest(i=i):
                self.assertEqual(last(*self.made, ("cut", i)), [-2])
                self.assertEqual(ask(*self.made, ("cut", i), *seen(4))[5:], ask(*self.made, *seen(4))[4:])
        self.assertEqual(last(("begin", 2), ("cut", 0)), [-2])

    def test_a_way_is_gone(self):
        self.assertEqual(last(*self.made, ("told", 0, 3)), [13])
        self.assertEqual(last(*self.made, ("cut", 0), ("told", 0, 3)), [-33])


if __name__ == "__main__":
    unittest.main()
