"""without, after, would and fewest."""

import unittest
from itertools import permutations

from tests.helper import TOP, ask, last, seen

PATH = [("begin", 3), ("line", 0, 1, 1), ("line", 1, 2, 2)]
SQUARE = [("begin", 4), ("line", 0, 1, 1), ("line", 0, 2, 1), ("line", 1, 3, 1), ("line", 2, 3, 1)]
TWO_PIECES = [("begin", 4), ("line", 0, 2, 5), ("line", 1, 3, 6)]
PATH_OF_FIVE = [("begin", 5)] + [("line", v, v + 1, 1) for v in range(4)]
NOT_EACH_ONCE = [
    [], [0], [0, 1], [0, 1, 1], [0, 0, 0], [1, 2, 3], [0, 1, 3], [0, 1, 65535], [0, 1, 2, 2], [0, 1, 2, 0], [0, 1, 2, 3],
    list(range(100)), [0] * 100, [65535] * 100, [0, 1, 2] * 33 + [0],
]


class Without(unittest.TestCase):
    def test_no_mark_can_be_left_out(self):
        for made in (PATH, SQUARE, TWO_PIECES, PATH_OF_FIVE, SQUARE + [("first", 3)]):
            n = made[0][1]
            for v in range(n):
                for i in range(last(*made, ("marks", v))[0]):
                    with self.subTest(made=made, v=v, i=i):
                        self.assertEqual(last(*made, ("without", v, i)), [0])

    def test_a_places_own_mark(self):
        # All distances of two are told without it, but not the place's from itself.
        self.assertEqual(ask(("begin", 2), ("line", 0, 1, 5), ("without", 1, 1), ("without", 1, 0))[2:], [[0], [0]])
        self.assertEqual(ask(("begin", 1), ("without", 0, 0), ("without", 0, 1))[1:], [[0], [-2]])
        self.assertEqual(last(("begin", 8), ("without", 7, 0)), [0])

    def test_a_mark_that_another_would_tell_as_far(self):
        # By 1's marks 0 and 3 are as far as by 2's, but 0 and 2 are not told without them.
        made = SQUARE + [("order", [1, 2, 0, 3])]
        self.assertEqual(ask(*made, ("marks", 0), ("without", 0, 0), ("without", 0, 1))[6:], [[3, 1, 1, 2, 1, 0, 0], [0], [0]])

    def test_no_such_place(self):
        for v, i in ((3, 0), (3, 9), (8, 0), (65536, 0), (TOP, 0), (TOP, TOP)):
            with self.subTest(v=v, i=i):
                self.assertEqual(last(*PATH, ("without", v, i)), [-2])

    def test_no_such_mark(self):
        for v in range(3):
            for i in (v + 1, v + 2, 8, 65536, TOP):
                with self.subTest(v=v, i=i):
                    self.assertEqual(last(*PATH, ("without", v, i)), [-2])

    def test_the_mark_is_still_there(self):
        self.assertEqual(ask(*PATH, ("without", 2, 1), *seen(3))[4:], ask(*PATH, *seen(3))[3:])


class After(unittest.TestCase):
    def test_place_after_place(self):
        self.assertEqual(ask(*PATH, *[("after", k) for k in range(4)])[3:], [[0, 0], [3, 2], [5, 3], [6, 3]])

    def test_by_the_order(self):
        self.assertEqual(
            ask(*PATH, ("first", 1), *[("after", k) for k in range(4)])[4:], [[0, 0], [3, 3], [4, 3], [5, 3]]
        )
        self.assertEqual(
            ask(*PATH, ("order", [2, 1, 0]), *[("after", k) for k in range(4)])[4:], [[0, 0], [3, 2], [5, 3], [6, 3]]
        )

    def test_nothing_where_no_way_leads_is_right(self):
        self.assertEqual(
            ask(*TWO_PIECES, *[("after", k) for k in range(5)])[3:], [[0, 4], [2, 5], [4, 6], [5, 6], [6, 6]]
        )
        self.assertEqual(ask(("begin", 3), *[("after", k) for k in range(4)])[1:], [[0, 3], [1, 3], [2, 3], [3, 3]])

    def test_one_place_is_no_pair(self):
        self.assertEqual(ask(("begin", 1), ("after", 0), ("after", 1), ("after", 2))[1:], [[0, 0], [1, 0], [-22]])

    def test_eight_places(self):
        star = [("begin", 8)] + [("line", 5, v, 3) for v in range(8) if v != 5] + [("first", 5)]
        self.assertEqual(
            ask(*star, ("after", 0), ("after", 1), ("after", 2), ("after", 8), ("after", 9))[9:],
            [[0, 0], [8, 28], [9, 28], [15, 28], [-22]],
        )

    def test_all_have_marked(self):
        for made in (PATH, SQUARE, TWO_PIECES, PATH_OF_FIVE):
            n = made[0][1]
            with self.subTest(made=made):
                self.assertEqual(last(*made, ("after", n)), last(*made, ("size",)) + [n * (n - 1) // 2])

    def test_out_of_range(self):
        for k in (4, 5, 8, 65536, TOP):
            with self.subTest(k=k):
                self.assertEqual(last(*PATH, ("after", k)), [-22])


class Would(unittest.TestCase):
    def test_how_many_marks_by_that_order(self):
        sizes = {(0, 1, 2): 6, (0, 2, 1): 6, (1, 0, 2): 5, (1, 2, 0): 5, (2, 0, 1): 6, (2, 1, 0): 6}
        for row, number in sizes.items():
            for order in sizes:
                with self.subTest(row=row, order=order):
                    self.assertEqual(last(*PATH, ("order", list(order)), ("would", list(row))), [number])

    def test_as_order_answers(self):
        for row in permutations(range(4)):
            with self.subTest(row=row):
                self.assertEqual(last(*SQUARE, ("would", list(row))), last(*SQUARE, ("order", list(row))))

    def test_the_order_stays(self):
        made = PATH + [("order", [2, 0, 1])]
        self.assertEqual(ask(*made, ("would", [1, 0, 2]), *seen(3))[4:], [[5]] + ask(*made, *seen(3))[4:])

    def test_hasnt_each_place_once(self):
        for row in NOT_EACH_ONCE:
            with self.subTest(row=row):
                self.assertEqual(ask(*PATH, ("would", row), *seen(3))[3:], [[-22]] + ask(*PATH, *seen(3))[3:])

    def test_a_row_does_not_hide_the_next_call(self):
        self.assertEqual(
            ask(("begin", 2), ("would", []), ("size",), ("would", [9] * 100), ("size",), ("would", [1, 0]), ("orderis",)),
            [[0], [-22], [2], [-22], [2], [2], [2, 0, 1]],
        )

    def test_eight_places(self):
        made = [("begin", 8)] + [("line", v, v + 1, 99) for v in range(7)]
        self.assertEqual(
            ask(*made, ("would", list(range(8))), ("would", [3, 1, 5, 0, 2, 4, 6, 7]), ("size",))[8:], [[36], [21], [36]]
        )


class Fewest(unittest.TestCase):
    def test_how_many_then_the_order(self):
        self.assertEqual(last(*PATH, ("fewest",)), [5, 1, 0, 2])
        self.assertEqual(last(*PATH_OF_FIVE, ("fewest",)), [11, 1, 0, 3, 2, 4])
        star = [("begin", 5)] + [("line", 4, v, v + 1) for v in range(4)]
        self.assertEqual(last(*star, ("fewest",)), [9, 4, 0, 1, 2, 3])

    def test_the_first_of_like_ones(self):
        for n in range(1, 6):
            with self.subTest(n=n):
                self.assertEqual(last(("begin", n), ("first", n - 1), ("fewest",)), [n, *range(n)])

    def test_as_bestorder_takes_it(self):
        for made in (PATH, SQUARE, TWO_PIECES, PATH_OF_FIVE):
            number, order = ask(*made, ("bestorder",), ("orderis",))[-2:]
            with self.subTest(made=made):
                self.assertEqual(last(*made, ("fewest",)), number + order[1:])
                self.assertEqual(last(*made, ("bestorder",), ("fewest",)), number + order[1:])

    def test_the_order_stays(self):
        made = PATH_OF_FIVE + [("order", [4, 3, 2, 1, 0])]
        self.assertEqual(ask(*made, ("fewest",), ("orderis",), ("size",))[7:], [[5, 4, 3, 2, 1, 0], [15]])
        self.assertEqual(ask(*made, ("fewest",), *seen(5))[7:], ask(*made, *seen(5))[6:])

    def test_more_than_five_places(self):
        for n in (6, 7, 8):
            with self.subTest(n=n):
                self.assertEqual(ask(("begin", n), ("fewest",), ("size",))[1:], [[-28], [n]])


if __name__ == "__main__":
    unittest.main()
