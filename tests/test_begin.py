"""begin, lines and orderis; and what is answered before a begin."""

import unittest

from tests.helper import NAMES, TOP, ask, last, seen

OTHERS = [
    ("line", 0, 1, 5), ("cut", 0), ("order", [0]), ("order", []), ("first", 0), ("bestorder",), ("lines",),
    ("orderis",), ("marks", 0), ("size",), ("told", 0, 0), ("dist", 0, 0), ("by", 0, 0), ("who", 0),
    ("without", 0, 0), ("after", 0), ("would", [0, 1]), ("fewest",), ("right", [1, 0, 0]), ("back",), ("state",),
]
WRONG = [
    ("line", TOP, 0, 0), ("cut", TOP), ("order", [65535] * 100), ("first", TOP), ("marks", TOP), ("told", TOP, 9),
    ("dist", TOP, TOP), ("by", 9, TOP), ("who", TOP), ("without", TOP, TOP), ("after", TOP), ("would", [65535] * 100),
    ("would", []), ("right", []), ("right", [65535] * 1000),
]


class Before(unittest.TestCase):
    def test_none_is_forgotten_here(self):
        self.assertEqual({call[0] for call in OTHERS}, set(NAMES[1:]))

    def test_each_other_call_alone(self):
        for call in OTHERS + WRONG:
            with self.subTest(call=call):
                self.assertEqual(ask(call), [[-11]])

    def test_all_others_one_behind_another(self):
        self.assertEqual(ask(*OTHERS), [[-11]] * len(OTHERS))

    def test_a_refused_begin_leaves_it_so(self):
        for n in (0, 9, 100, TOP):
            with self.subTest(n=n):
                self.assertEqual(ask(("begin", n), *OTHERS), [[-22]] + [[-11]] * len(OTHERS))

    def test_a_begin_behind_a_refused_one(self):
        self.assertEqual(
            ask(("begin", 9), ("size",), ("begin", 2), ("size",)), [[-22], [-11], [0], [2]]
        )


class Begin(unittest.TestCase):
    def test_one_to_eight_places(self):
        for n in range(1, 9):
            with self.subTest(n=n):
                self.assertEqual(
                    ask(("begin", n), ("lines",), ("orderis",), ("size",)), [[0], [0], [n] + list(range(n)), [n]]
                )

    def test_out_of_range(self):
        for n in (0, 9, 10, 256, 257, 65537, TOP - 1, TOP):
            with self.subTest(n=n):
                self.assertEqual(ask(("begin", n)), [[-22]])

    def test_refused_later_it_leaves_all_as_it_was(self):
        made = [("begin", 4), ("line", 0, 1, 7), ("line", 3, 1, 2), ("order", [3, 0, 2, 1])]
        for n in (0, 9, TOP):
            with self.subTest(n=n):
                self.assertEqual(last(*made, ("begin", n)), [-22])
                self.assertEqual(ask(*made, ("begin", n), *seen(4))[5:], ask(*made, *seen(4))[4:])

    def test_a_later_one_makes_all_new(self):
        made = [("begin", 4), ("line", 0, 1, 7), ("line", 3, 1, 2), ("order", [3, 0, 2, 1])]
        for n in (1, 4, 6):
            with self.subTest(n=n):
                self.assertEqual(ask(*made, ("begin", n), *seen(n))[4:], ask(("begin", n), *seen(n)))

    def test_places_that_are_gone(self):
        self.assertEqual(last(("begin", 5), ("begin", 2), ("marks", 2)), [-2])


class Look(unittest.TestCase):
    def test_lines_and_orderis(self):
        self.assertEqual(
            ask(("begin", 3), ("line", 2, 0, 9), ("order", [1, 2, 0]), ("lines",), ("orderis",))[3:],
            [[1, 0, 2, 9], [3, 1, 2, 0]],
        )

    def test_one_place(self):
        self.assertEqual(
            ask(("begin", 1), ("lines",), ("orderis",), ("marks", 0), ("size",), ("told", 0, 0)),
            [[0], [0], [1, 0], [1, 0, 0], [1], [0]],
        )
        self.assertEqual(
            ask(("begin", 1), ("line", 0, 0, 1), ("line", 0, 1, 1), ("cut", 0), ("order", [0]), ("first", 0),
                ("bestorder",), ("orderis",))[1:],
            [[-22], [-2], [-2], [1], [1], [1], [1, 0]],
        )


if __name__ == "__main__":
    unittest.main()
