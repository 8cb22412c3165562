"""order, first and bestorder, and how orderis shows them."""

import unittest
from itertools import permutations

from tests.helper import TOP, ask, last, seen

PATH = [("begin", 3), ("line", 0, 1, 1), ("line", 1, 2, 2)]
PATH_OF_FIVE = [("begin", 5)] + [("line", v, v + 1, 1) for v in range(4)]


class Order(unittest.TestCase):
    def test_answers_how_many_marks(self):
        sizes = {(0, 1, 2): 6, (0, 2, 1): 6, (1, 0, 2): 5, (1, 2, 0): 5, (2, 0, 1): 6, (2, 1, 0): 6}
        for row, number in sizes.items():
            with self.subTest(row=row):
                self.assertEqual(
                    ask(*PATH, ("order", list(row)), ("orderis",), ("size",))[3:], [[number], [3, *row], [number]]
                )

    def test_hasnt_each_place_once(self):
        rows = [
            [], [0], [0, 1], [0, 1, 1], [0, 0, 0], [1, 2, 3], [0, 1, 3], [0, 1, 65535], [0, 1, 2, 2], [0, 1, 2, 0],
            [0, 1, 2, 3], list(range(100)), [0] * 100, [65535] * 100, [0, 1, 2] * 33 + [0],
        ]
        made = PATH + [("order", [2, 0, 1])]
        for row in rows:
            with self.subTest(row=row):
                self.assertEqual(last(*made, ("order", row)), [-22])
                self.assertEqual(ask(*made, ("order", row), *seen(3))[5:], ask(*made, *seen(3))[4:])

    def test_a_row_does_not_hide_the_next_call(self):
        self.assertEqual(
            ask(("begin", 2), ("order", []), ("size",), ("order", [9] * 100), ("size",), ("order", [1, 0]), ("orderis",)),
            [[0], [-22], [2], [-22], [2], [2], [2, 1, 0]],
        )

    def test_eight_places(self):
        row = [3, 7, 0, 6, 1, 5, 2, 4]
        self.assertEqual(ask(("begin", 8), ("order", row), ("orderis",))[1:], [[8], [8] + row])


class First(unittest.TestCase):
    def test_all_others_as_they_were(self):
        made = [("begin", 5), ("order", [4, 2, 0, 3, 1])]
        orders = {0: [0, 4, 2, 3, 1], 1: [1, 4, 2, 0, 3], 2: [2, 4, 0, 3, 1], 3: [3, 4, 2, 0, 1], 4: [4, 2, 0, 3, 1]}
        for v, row in orders.items():
            with self.subTest(v=v):
                self.assertEqual(ask(*made, ("first", v), ("orderis",))[2:], [[5], [5] + row])

    def test_a_place_that_is_in_the_middle(self):
        self.assertEqual(
            ask(*PATH, ("size",), ("first", 1), ("marks", 0), ("marks", 1), ("marks", 2))[3:],
            [[6], [5], [2, 1, 1, 0, 0], [1, 1, 0], [2, 1, 2, 2, 0]],
        )

    def test_the_one_that_was_last(self):
        self.assertEqual(
            ask(*PATH, ("first", 2), ("orderis",), ("marks", 0), ("marks", 1), ("marks", 2))[3:],
            [[6], [3, 2, 0, 1], [2, 2, 3, 0, 0], [3, 2, 2, 0, 1, 1, 0], [1, 2, 0]],
        )

    def test_no_such_place(self):
        for v in (3, 8, 65536, TOP):
            with self.subTest(v=v):
                self.assertEqual(last(*PATH, ("first", v)), [-2])
                self.assertEqual(ask(*PATH, ("first", v), *seen(3))[4:], ask(*PATH, *seen(3))[3:])


class Best(unittest.TestCase):
    def test_not_the_first_tried(self):
        self.assertEqual(
            ask(*PATH_OF_FIVE, ("size",), ("bestorder",), ("orderis",), ("size",))[5:],
            [[15], [11], [5, 1, 0, 3, 2, 4], [11]],
        )

    def test_a_star_of_five(self):
        star = [("begin", 5)] + [("line", 4, v, v + 1) for v in range(4)]
        self.assertEqual(ask(*star, ("bestorder",), ("orderis",))[5:], [[9], [5, 4, 0, 1, 2, 3]])

    def test_the_first_of_like_ones(self):
        self.assertEqual(
            ask(("begin", 5), ("order", [4, 3, 2, 1, 0]), ("bestorder",), ("orderis",))[2:], [[5], [5, 0, 1, 2, 3, 4]]
        )

    def test_from_whichever_order(self):
        for row in ([4, 3, 2, 1, 0], [2, 1, 0, 3, 4], [1, 0, 3, 4, 2]):
            with self.subTest(row=row):
                self.assertEqual(
                    ask(*PATH_OF_FIVE, ("order", row), ("bestorder",), ("orderis",))[6:], [[11], [5, 1, 0, 3, 2, 4]]
                )

    def test_no_order_needs_fewer(self):
        graphs = [
            [(0, 1, 3), (1, 2, 3), (2, 3, 3), (3, 4, 3), (0, 4, 3)],
            [(0, 3, 1), (1, 3, 5), (1, 4, 2), (2, 4, 9), (0, 2, 12)],
            [(0, 2, 4), (2, 4, 4), (1, 3, 7)],
        ]
        for lines in graphs:
            made = [("begin", 5)] + [("line", *line) for line in lines]
            sizes = {row: last(*made, ("order", list(row)))[0] for row in permutations(range(5))}
            first = [row for row in sizes if sizes[row] == min(sizes.values())][0]
            with self.subTest(lines=lines):
                self.assertEqual(
                    ask(*made, ("bestorder",), ("orderis",))[len(made):], [[sizes[first]], [5, *first]]
                )

    def test_more_than_five_places(self):
        for n in (6, 7, 8):
            made = [("begin", n), ("line", 0, 1, 1), ("line", 1, 2, 1), ("first", 5)]
            with self.subTest(n=n):
                self.assertEqual(last(*made, ("bestorder",)), [-28])
                self.assertEqual(ask(*made, ("bestorder",), *seen(n))[5:], ask(*made, *seen(n))[4:])

    def test_up_to_five_places(self):
        for n in range(1, 6):
            with self.subTest(n=n):
                self.assertEqual(ask(("begin", n), ("bestorder",), ("orderis",))[1:], [[n], [n, *range(n)]])


if __name__ == "__main__":
    unittest.main()
