"""Where it usually breaks: a test for each row of the document, worked out by hand."""

import unittest

from tests.helper import ask, last


def behind(made, *calls):
    """What these calls answer when the object is made."""
    return ask(*made, *calls)[len(made):]


class Breaks(unittest.TestCase):
    def test_one_place(self):
        self.assertEqual(
            ask(("begin", 1), ("state",), ("lines",), ("orderis",), ("size",), ("marks", 0), ("told", 0, 0), ("dist", 0, 0),
                ("by", 0, 0), ("who", 0), ("without", 0, 0), ("after", 0), ("after", 1), ("would", [0]), ("fewest",)),
            [[0], [1, 0, 0], [0], [1, 0], [1], [1, 0, 0], [0], [0], [0], [1, 0], [0], [0, 0], [1, 0], [1], [1, 0]],
        )
        self.assertEqual(
            ask(("begin", 1), ("order", [0]), ("first", 0), ("bestorder",), ("state",), ("back",), ("back",), ("back",),
                ("back",), ("right", [1, 0, 0]), ("right", [0]))[1:],
            [[1], [1], [1], [1, 0, 3], [2], [1], [0], [-6], [1], [0]],
        )

    def test_no_lines(self):
        for n in range(1, 9):
            made = [("begin", n), ("order", list(range(n))[::-1])]
            own = [number for v in range(n) for number in (1, v, 0)]
            with self.subTest(n=n):
                self.assertEqual(behind(made, ("size",), ("right", own)), [[n], [1]])
                for v in range(n):
                    self.assertEqual(
                        behind(made, ("marks", v), ("who", v), ("told", v, v), ("by", v, v), ("without", v, 0)),
                        [[1, v, 0], [1, v], [0], [v], [0]],
                    )
                for u in range(1, n):
                    self.assertEqual(behind(made, ("told", u, 0), ("dist", 0, u), ("by", u, 0)), [[-33]] * 3)
                self.assertEqual(
                    behind(made, *[("after", k) for k in range(n + 1)]), [[k, n * (n - 1) // 2] for k in range(n + 1)]
                )

    def test_two_pieces(self):
        # 1 - 3 - 4 and 0 - 2
        made = [("begin", 5), ("line", 3, 1, 4), ("line", 4, 3, 4), ("line", 2, 0, 9), ("order", [3, 0, 1, 2, 4])]
        self.assertEqual(
            behind(made, *[("marks", v) for v in range(5)], ("size",)),
            [[1, 0, 0], [2, 3, 4, 1, 0], [2, 0, 9, 2, 0], [1, 3, 0], [2, 3, 4, 4, 0], [8]],
        )
        self.assertEqual(
            behind(made, ("told", 1, 4), ("by", 4, 1), ("dist", 0, 2), ("told", 0, 1), ("by", 4, 2), ("dist", 2, 3)),
            [[8], [3], [9], [-33], [-33], [-33]],
        )
        # Six pairs of ten are in two pieces: of these nothing is right.
        self.assertEqual(behind(made, *[("after", k) for k in range(4)]), [[0, 6], [3, 9], [5, 10], [6, 10]])
        self.assertEqual(last(*made, ("fewest",)), [8, 0, 2, 3, 1, 4])

    def test_two_shortest_ways(self):
        made = [("begin", 4), ("line", 0, 1, 2), ("line", 1, 3, 3), ("line", 0, 2, 4), ("line", 2, 3, 1)]
        # From 0 to 3 it is 5, by 1 and by 2; whichever stands ahead of both, 3 isn't marked by 0.
        for order, marks in (
            ([2, 0, 1, 3], [3, 2, 1, 1, 3, 3, 0]), ([1, 0, 2, 3], [3, 1, 3, 2, 1, 3, 0]),
            ([0, 1, 2, 3], [4, 0, 5, 1, 3, 2, 1, 3, 0]),
        ):
            with self.subTest(order=order):
                self.assertEqual(
                    behind(made + [("order", order)], ("dist", 0, 3), ("told", 3, 0), ("by", 0, 3), ("marks", 3)),
                    [[5], [5], [order[0]], marks],
                )

    def test_a_place_first_that_is_in_the_middle(self):
        star = [("begin", 5)] + [("line", 2, v, 10 + v) for v in (0, 1, 3, 4)]
        self.assertEqual(
            behind(star, ("size",), ("first", 2), ("who", 2), ("after", 1), ("by", 0, 4), ("told", 4, 3), ("marks", 4)),
            [[14], [9], [5, 0, 1, 2, 3, 4], [5, 10], [2], [27], [2, 2, 14, 4, 0]],
        )

    def test_a_place_that_is_last_in_the_order(self):
        star = [("begin", 4)] + [("line", 3, v, 2) for v in range(3)]
        self.assertEqual(
            behind(star, ("marks", 3), ("who", 3), ("without", 3, 3), ("by", 0, 3), ("by", 3, 3), ("after", 3), ("after", 4)),
            [[4, 0, 2, 1, 2, 2, 2, 3, 0], [1, 3], [0], [0], [3], [9, 6], [10, 6]],
        )

    def test_a_line_that_makes_a_distance_shorter(self):
        made = [("begin", 3), ("line", 0, 1, 5), ("line", 1, 2, 5), ("first", 1)]
        shows = [("dist", 0, 2), ("told", 0, 2), ("by", 0, 2), ("marks", 2), ("size",)]
        far = [[10], [10], [1], [2, 1, 5, 2, 0], [5]]
        near = [[9], [9], [0], [3, 1, 5, 0, 9, 2, 0], [6]]
        self.assertEqual(behind(made, *shows), far)
        self.assertEqual(behind(made, ("line", 2, 0, 10), *shows), [[5]] + far)
        self.assertEqual(behind(made, ("line", 2, 0, 9), *shows), [[6]] + near)
        self.assertEqual(behind(made, ("line", 2, 0, 9), ("back",), *shows), [[6], [3]] + far)

    def test_a_mark_left_out_that_another_would_tell_as_far(self):
        made = [("begin", 4), ("line", 0, 1, 1), ("line", 1, 3, 1), ("line", 0, 2, 1), ("line", 2, 3, 1),
                ("order", [1, 2, 0, 3])]
        # 1 and 2 both tell 0 and 3 of 2, but each tells 0 of another line, too.
        self.assertEqual(behind(made, ("without", 0, 0), ("without", 0, 1), ("without", 3, 0)), [[0], [0], [0]])
        # Marks of 0 at 3 are more than are needed: left out, 1 tells as far.
        own = [3, 1, 1, 2, 1, 0, 0, 1, 1, 0, 2, 1, 2, 2, 0]
        self.assertEqual(
            behind(made, ("right", own + [4, 1, 1, 2, 1, 0, 2, 3, 0]), ("right", own + [3, 1, 1, 2, 1, 3, 0]),
                   ("right", own + [2, 1, 1, 3, 0])),
            [[1], [1], [0]],
        )

    def test_an_order_of_five_that_is_best_and_not_the_first_tried(self):
        path = [("begin", 5)] + [("line", v, v + 1, 7) for v in range(4)]
        self.assertEqual(
            behind(path, ("would", [0, 1, 2, 3, 4]), ("fewest",), ("orderis",), ("bestorder",), ("orderis",), ("size",)),
            [[15], [11, 1, 0, 3, 2, 4], [5, 0, 1, 2, 3, 4], [11], [5, 1, 0, 3, 2, 4], [11]],
        )

    def test_marks_told_that_have_none_of_a_places_own(self):
        made = [("begin", 3), ("line", 0, 1, 4), ("line", 1, 2, 6)]
        # All distances of two are told by 1, but not of 0 and of 2 from themselves.
        self.assertEqual(last(*made, ("right", [1, 1, 4, 1, 1, 0, 1, 1, 6])), [0])
        self.assertEqual(last(*made, ("right", [2, 1, 4, 0, 0, 1, 1, 0, 1, 1, 6])), [0])
        self.assertEqual(last(*made, ("right", [2, 1, 4, 0, 0, 1, 1, 0, 2, 1, 6, 2, 0])), [1])


if __name__ == "__main__":
    unittest.main()
