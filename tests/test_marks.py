"""marks, size and told."""

import unittest

from tests.helper import TOP, ask, last, seen

PATH = [("begin", 3), ("line", 0, 1, 1), ("line", 1, 2, 2)]
SQUARE = [("begin", 4), ("line", 0, 1, 1), ("line", 0, 2, 1), ("line", 1, 3, 1), ("line", 2, 3, 1)]


class Marks(unittest.TestCase):
    def test_in_the_order_in_which_they_came(self):
        self.assertEqual(
            ask(*PATH, ("marks", 0), ("marks", 1), ("marks", 2), ("size",))[3:],
            [[1, 0, 0], [2, 0, 1, 1, 0], [3, 0, 3, 1, 2, 2, 0], [6]],
        )

    def test_by_another_order(self):
        self.assertEqual(
            ask(*PATH, ("order", [2, 1, 0]), ("marks", 0), ("marks", 1), ("marks", 2), ("size",))[3:],
            [[6], [3, 2, 3, 1, 1, 0, 0], [2, 2, 2, 1, 0], [1, 2, 0], [6]],
        )

    def test_no_lines_each_has_its_own_mark_alone(self):
        for n in range(1, 9):
            with self.subTest(n=n):
                self.assertEqual(
                    ask(("begin", n), ("size",), *[("marks", v) for v in range(n)])[1:],
                    [[n]] + [[1, v, 0] for v in range(n)],
                )

    def test_two_pieces(self):
        made = [("begin", 4), ("line", 0, 2, 5), ("line", 1, 3, 6)]
        self.assertEqual(
            ask(*made, ("marks", 0), ("marks", 1), ("marks", 2), ("marks", 3), ("size",))[3:],
            [[1, 0, 0], [1, 1, 0], [2, 0, 5, 2, 0], [2, 1, 6, 3, 0], [6]],
        )
        self.assertEqual(ask(*made, ("told", 0, 1), ("told", 3, 2), ("told", 2, 0))[3:], [[-33], [-33], [5]])

    def test_two_shortest_ways(self):
        # 0 marks all; the distance of 1 and 2 is told by 0, on one of two ways.
        self.assertEqual(
            ask(*SQUARE, *[("marks", v) for v in range(4)], ("size",))[5:],
            [[1, 0, 0], [2, 0, 1, 1, 0], [2, 0, 1, 2, 0], [4, 0, 2, 1, 1, 2, 1, 3, 0], [9]],
        )
        # Here 3 isn't marked by 0, since 1 stands on one of both ways, ahead of it.
        self.assertEqual(
            ask(*SQUARE, ("first", 1), *[("marks", v) for v in range(4)])[5:],
            [[9], [2, 1, 1, 0, 0], [1, 1, 0], [3, 1, 2, 0, 1, 2, 0], [3, 1, 1, 2, 1, 3, 0]],
        )

    def test_a_place_that_is_last_in_the_order(self):
        made = [("begin", 4), ("line", 3, 0, 2), ("line", 3, 1, 2), ("line", 3, 2, 2)]
        self.assertEqual(
            ask(*made, *[("marks", v) for v in range(4)])[4:],
            [[1, 0, 0], [2, 0, 4, 1, 0], [3, 0, 4, 1, 4, 2, 0], [4, 0, 2, 1, 2, 2, 2, 3, 0]],
        )

    def test_a_line_that_makes_a_distance_shorter(self):
        made = PATH + [("line", 0, 2, 2)]
        self.assertEqual(last(*PATH, ("told", 0, 2)), [3])
        self.assertEqual(ask(*made, ("told", 0, 2), ("marks", 2))[4:], [[2], [3, 0, 2, 1, 2, 2, 0]])

    def test_a_line_that_makes_none_shorter(self):
        self.assertEqual(ask(*PATH, ("line", 0, 2, 50), *seen(3)[2:])[4:], ask(*PATH, *seen(3)[2:])[3:])

    def test_no_such_place(self):
        for v in (3, 8, 65536, TOP):
            with self.subTest(v=v):
                self.assertEqual(last(*PATH, ("marks", v)), [-2])

    def test_the_longest_way(self):
        made = [("begin", 8)] + [("line", v, v + 1, 99) for v in range(7)]
        self.assertEqual(ask(*made, ("told", 0, 7), ("told", 7, 0), ("size",))[8:], [[693], [693], [36]])


class Told(unittest.TestCase):
    def test_both_ways_and_from_itself(self):
        for u, v, distance in ((0, 1, 1), (1, 2, 2), (0, 2, 3), (0, 0, 0), (1, 1, 0), (2, 2, 0)):
            with self.subTest(u=u, v=v):
                self.assertEqual(ask(*PATH, ("told", u, v), ("told", v, u))[3:], [[distance], [distance]])

    def test_no_such_place(self):
        for u, v in ((3, 0), (0, 3), (3, 3), (TOP, 0), (0, TOP), (TOP, TOP)):
            with self.subTest(u=u, v=v):
                self.assertEqual(last(*PATH, ("told", u, v)), [-2])

    def test_no_such_place_ahead_of_none(self):
        self.assertEqual(ask(("begin", 2), ("told", 0, 2), ("told", 0, 1))[1:], [[-2], [-33]])


class Looking(unittest.TestCase):
    def test_looking_changes_nothing(self):
        self.assertEqual(ask(*SQUARE, *seen(4), *seen(4))[5:], ask(*SQUARE, *seen(4))[5:] * 2)


if __name__ == "__main__":
    unittest.main()
