"""dist, by and who."""

import unittest

from tests.helper import TOP, ask, last, seen

PATH = [("begin", 3), ("line", 0, 1, 1), ("line", 1, 2, 2)]
SQUARE = [("begin", 4), ("line", 0, 1, 1), ("line", 0, 2, 1), ("line", 1, 3, 1), ("line", 2, 3, 1)]
TWO_PIECES = [("begin", 4), ("line", 0, 2, 5), ("line", 1, 3, 6)]
NO_SUCH_PAIRS = ((3, 0), (0, 3), (3, 3), (8, 1), (65536, 0), (TOP, 0), (0, TOP), (TOP, TOP))


class Dist(unittest.TestCase):
    def test_both_ways_and_from_itself(self):
        for u, v, distance in ((0, 1, 1), (1, 2, 2), (0, 2, 3), (0, 0, 0), (1, 1, 0), (2, 2, 0)):
            with self.subTest(u=u, v=v):
                self.assertEqual(ask(*PATH, ("dist", u, v), ("dist", v, u))[3:], [[distance], [distance]])

    def test_a_shortest_way_has_more_lines(self):
        made = [("begin", 4), ("line", 0, 3, 99), ("line", 0, 1, 33), ("line", 1, 2, 33), ("line", 2, 3, 32)]
        self.assertEqual(last(*made, ("dist", 0, 3)), [98])
        self.assertEqual(last(*made, ("line", 2, 3, 33), ("dist", 0, 3)), [99])
        self.assertEqual(last(*made, ("line", 2, 3, 34), ("dist", 3, 0)), [99])

    def test_whatever_the_order(self):
        for order in ([0, 1, 2], [2, 1, 0], [1, 0, 2]):
            with self.subTest(order=order):
                self.assertEqual(ask(*PATH, ("order", order), ("dist", 0, 2), ("dist", 2, 1))[4:], [[3], [2]])

    def test_the_longest(self):
        made = [("begin", 8)] + [("line", v, v + 1, 99) for v in range(7)]
        self.assertEqual(ask(*made, ("dist", 0, 7), ("dist", 7, 0))[8:], [[693], [693]])

    def test_no_way_leads_there(self):
        self.assertEqual(
            ask(*TWO_PIECES, ("dist", 0, 1), ("dist", 3, 2), ("dist", 2, 0), ("dist", 3, 3))[3:], [[-33], [-33], [5], [0]]
        )

    def test_no_such_place(self):
        for u, v in NO_SUCH_PAIRS:
            with self.subTest(u=u, v=v):
                self.assertEqual(last(*PATH, ("dist", u, v)), [-2])
                # No way leads to such a place either: -2 is told first.
                self.assertEqual(last(("begin", 3), ("dist", u, v)), [-2])


class By(unittest.TestCase):
    def test_the_one_that_tells_the_distance(self):
        # 1 and 2 both have 0's mark ahead of 1's, but that tells 4.
        tellers = {(0, 0): 0, (0, 1): 0, (0, 2): 0, (1, 1): 1, (1, 2): 1, (2, 2): 2}
        for (u, v), h in tellers.items():
            with self.subTest(u=u, v=v):
                self.assertEqual(ask(*PATH, ("by", u, v), ("by", v, u))[3:], [[h], [h]])

    def test_a_place_in_the_middle_tells_all(self):
        self.assertEqual(
            ask(*PATH, ("first", 1), ("by", 0, 2), ("by", 2, 0), ("by", 0, 1), ("by", 2, 2))[4:], [[1], [1], [1], [2]]
        )

    def test_the_first_of_several(self):
        # The distance of 0 and 3 is told by 1 and by 2.
        for order in ([1, 2, 0, 3], [1, 2, 3, 0], [2, 1, 0, 3], [2, 1, 3, 0]):
            made = SQUARE + [("order", order)]
            h, other = order[:2]
            with self.subTest(order=order):
                self.assertEqual(ask(*made, ("who", h), ("who", other))[6:], [[4, 0, 1, 2, 3], [3, 0, other, 3]])
                self.assertEqual(ask(*made, ("by", 0, 3), ("by", 3, 0))[6:], [[h], [h]])

    def test_the_first_of_several_behind_one_that_tells_farther(self):
        # 4 comes first, far off, and tells 0 and 3 of 20; 2 and 1 tell 2.
        made = [("begin", 5)] + SQUARE[1:] + [("line", 0, 4, 10), ("line", 3, 4, 10), ("order", [4, 2, 1, 0, 3])]
        self.assertEqual(ask(*made, ("marks", 0), ("by", 0, 3), ("by", 3, 0))[8:], [[4, 4, 10, 2, 1, 1, 1, 0, 0], [2], [2]])

    def test_nothing_is_told(self):
        self.assertEqual(
            ask(*TWO_PIECES, ("by", 0, 1), ("by", 3, 2), ("by", 2, 0), ("by", 3, 1))[3:], [[-33], [-33], [0], [1]]
        )

    def test_no_such_place(self):
        for u, v in NO_SUCH_PAIRS:
            with self.subTest(u=u, v=v):
                self.assertEqual(last(*PATH, ("by", u, v)), [-2])
                self.assertEqual(last(("begin", 3), ("by", u, v)), [-2])


class Who(unittest.TestCase):
    def test_how_many_and_these(self):
        self.assertEqual(ask(*PATH, ("who", 0), ("who", 1), ("who", 2))[3:], [[3, 0, 1, 2], [2, 1, 2], [1, 2]])

    def test_rising_whatever_the_order(self):
        self.assertEqual(
            ask(*PATH, ("order", [2, 1, 0]), ("who", 2), ("who", 1), ("who", 0))[4:], [[3, 0, 1, 2], [2, 0, 1], [1, 0]]
        )
        self.assertEqual(
            ask(*PATH, ("order", [1, 2, 0]), ("who", 1), ("who", 2), ("who", 0))[4:], [[3, 0, 1, 2], [1, 2], [1, 0]]
        )

    def test_no_lines(self):
        self.assertEqual(ask(("begin", 3), ("who", 0), ("who", 1), ("who", 2))[1:], [[1, 0], [1, 1], [1, 2]])

    def test_two_pieces(self):
        self.assertEqual(
            ask(*TWO_PIECES, ("who", 0), ("who", 1), ("who", 2), ("who", 3))[3:], [[2, 0, 2], [2, 1, 3], [1, 2], [1, 3]]
        )

    def test_all_eight(self):
        star = [("begin", 8)] + [("line", 5, v, 3) for v in range(8) if v != 5] + [("first", 5)]
        self.assertEqual(ask(*star, ("who", 5), ("who", 7))[9:], [[8, *range(8)], [1, 7]])

    def test_no_such_place(self):
        for h in (3, 8, 65536, TOP):
            with self.subTest(h=h):
                self.assertEqual(last(*PATH, ("who", h)), [-2])


class Looking(unittest.TestCase):
    def test_it_changes_nothing(self):
        calls = [("dist", 0, 2), ("by", 0, 2), ("who", 0), ("dist", 3, 3), ("by", 9, 9), ("who", TOP)]
        self.assertEqual(ask(*PATH, *calls, *seen(3))[9:], ask(*PATH, *seen(3))[3:])


if __name__ == "__main__":
    unittest.main()
