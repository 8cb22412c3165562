"""back and state: what can be taken back, and what is no change."""

import unittest

from tests.helper import TOP, ask, last, seen

# Fourteen changes on five places, of each kind, those that alter nothing among them.
CHANGES = [
    ("line", 0, 1, 3), ("line", 1, 2, 3), ("line", 4, 2, 9), ("order", [4, 2, 0, 1, 3]), ("line", 0, 1, 3), ("first", 3),
    ("line", 1, 0, 50), ("cut", 0), ("bestorder",), ("line", 1, 2, 1), ("first", 0), ("order", [0, 4, 1, 3, 2]),
    ("cut", 2), ("line", 3, 4, 99),
]
BEGIN = ("begin", 5)
BACK = ("back",)
STATE = ("state",)
PATH = [("begin", 3), ("line", 0, 1, 1), ("line", 1, 2, 2)]
ALTERING_NOTHING = [("line", 0, 1, 1), ("line", 2, 1, 2), ("order", [0, 1, 2]), ("first", 0)]
REFUSED = [
    ("begin", 0), ("begin", 9), ("begin", TOP), ("line", 0, 3, 1), ("line", TOP, 0, 1), ("line", 1, 1, 1),
    ("line", 0, 1, 0), ("line", 0, 1, 100), ("cut", 2), ("cut", TOP), ("order", []), ("order", [0, 1]),
    ("order", [0, 1, 1]), ("order", [0, 1, 2, 0]), ("first", 3), ("first", TOP),
]


def looks(n):
    """All that can be seen but state, which tells how many changes there are."""
    return [call for call in seen(n) if call != STATE]


class Back(unittest.TestCase):
    def test_there_is_none(self):
        self.assertEqual(ask(("begin", 3), BACK, BACK, STATE), [[0], [-6], [-6], [3, 0, 0]])

    def test_one(self):
        self.assertEqual(
            ask(("begin", 3), ("line", 0, 1, 7), BACK, ("lines",), ("size",), BACK)[2:], [[0], [0], [3], [-6]]
        )

    def test_answers_how_many_can_still_be(self):
        for made in range(len(CHANGES) + 1):
            kept = min(made, 10)
            with self.subTest(made=made):
                self.assertEqual(
                    ask(BEGIN, *CHANGES[:made], *[BACK] * 12)[made + 1:],
                    [[left] for left in range(kept - 1, -1, -1)] + [[-6]] * (12 - kept),
                )

    def test_all_is_as_it_was(self):
        for taken in range(1, 11):
            with self.subTest(taken=taken):
                calls = [BEGIN] + CHANGES + [BACK] * taken
                fewer = [BEGIN] + CHANGES[:-taken]
                self.assertEqual(ask(*calls, *looks(5))[len(calls):], ask(*fewer, *looks(5))[len(fewer):])

    def test_one_by_one_in_one_list(self):
        shows = [("lines",), ("orderis",), ("size",)] + [("marks", v) for v in range(5)] + [("without", 4, 0)]
        calls = [BEGIN] + CHANGES
        expected = []
        for left in range(9, -1, -1):
            calls += [BACK, STATE] + shows
            fewer = [BEGIN] + CHANGES[:left + 4]
            was = ask(*fewer, *shows)[len(fewer):]
            expected += [[left], [5, was[0][0], left]] + was
        self.assertEqual(ask(*calls)[len(CHANGES) + 1:], expected)

    def test_refused_it_changes_nothing(self):
        calls = [BEGIN] + CHANGES + [BACK] * 10
        self.assertEqual(last(*calls, BACK), [-6])
        self.assertEqual(ask(*calls, BACK, BACK, *seen(5))[len(calls) + 2:], ask(*calls, *seen(5))[len(calls):])

    def test_it_is_no_change_itself(self):
        self.assertEqual(
            ask(BEGIN, ("first", 1), ("first", 2), BACK, BACK, ("orderis",), BACK)[3:], [[1], [0], [5, 0, 1, 2, 3, 4], [-6]]
        )

    def test_changes_behind_it_count_on(self):
        calls = [BEGIN] + CHANGES[:12] + [BACK] * 3 + [("first", 4)]
        self.assertEqual(ask(*calls, STATE, BACK, BACK)[len(calls):], [[5, 2, 8], [7], [6]])
        # What was taken back is gone: behind the new change comes what was ahead of it.
        calls = [BEGIN, ("first", 1), ("first", 2), BACK, ("first", 3)]
        self.assertEqual(
            ask(*calls, BACK, ("orderis",), BACK, ("orderis",))[5:], [[1], [5, 1, 0, 2, 3, 4], [0], [5, 0, 1, 2, 3, 4]]
        )

    def test_there_is_room_again(self):
        full = [("begin", 8)] + [("line", v, w, 5) for v in range(3) for w in range(v + 1, 8)][:14]
        self.assertEqual(
            ask(*full, ("line", 6, 7, 1), BACK, ("line", 6, 7, 1))[15:], [[-28], [9], last(*full[:14], ("line", 6, 7, 1))]
        )


class Begun(unittest.TestCase):
    def test_a_begin_leaves_none(self):
        for n in (1, 5, 8):
            with self.subTest(n=n):
                self.assertEqual(
                    ask(BEGIN, *CHANGES, ("begin", n), STATE, BACK, STATE)[15:], [[0], [n, 0, 0], [-6], [n, 0, 0]]
                )

    def test_it_is_none_itself(self):
        self.assertEqual(ask(BEGIN, ("begin", 2), ("first", 1), BACK, BACK, STATE)[2:], [[2], [0], [-6], [2, 0, 0]])

    def test_a_refused_one_leaves_all(self):
        for n in (0, 9, TOP):
            with self.subTest(n=n):
                self.assertEqual(ask(*PATH, ("begin", n), STATE, BACK, BACK, BACK)[3:], [[-22], [3, 2, 2], [1], [0], [-6]])


class Changes(unittest.TestCase):
    def test_each_of_the_five_is_one(self):
        for call in (("line", 0, 2, 9), ("cut", 0), ("order", [2, 0, 1]), ("first", 1), ("bestorder",)):
            with self.subTest(call=call):
                self.assertEqual(last(*PATH, call, STATE)[2], 3)
                self.assertEqual(ask(*PATH, call, BACK, *seen(3))[4:], [[2]] + ask(*PATH, *seen(3))[3:])

    def test_also_where_it_alters_nothing(self):
        for call in ALTERING_NOTHING:
            with self.subTest(call=call):
                self.assertEqual(ask(*PATH, call, *looks(3))[4:], ask(*PATH, *looks(3))[3:])
                self.assertEqual(ask(*PATH, call, STATE, BACK, STATE)[4:], [[3, 2, 3], [2], [3, 2, 2]])
        best = PATH + [("bestorder",)]
        self.assertEqual(ask(*best, ("bestorder",), *looks(3))[5:], ask(*best, *looks(3))[4:])
        self.assertEqual(ask(*best, ("bestorder",), STATE, BACK)[5:], [[3, 2, 4], [3]])

    def test_such_push_older_ones_out(self):
        calls = PATH + ALTERING_NOTHING * 2 + [("bestorder",)] * 2
        self.assertEqual(ask(*calls, *[BACK] * 11, ("lines",))[-2:], [[-6], [2, 0, 1, 1, 1, 2, 2]])

    def test_what_is_refused_is_none(self):
        for call in REFUSED:
            with self.subTest(call=call):
                answer, state, taken = ask(*PATH, call, STATE, BACK)[3:]
                self.assertLess(answer[0], 0)
                self.assertEqual([len(answer), state, taken], [1, [3, 2, 2], [1]])

    def test_too_many_is_none(self):
        full = [("begin", 8)] + [("line", v, w, 5) for v in range(3) for w in range(v + 1, 8)][:14]
        self.assertEqual(ask(*full, ("line", 6, 7, 1), ("bestorder",), ("fewest",), STATE)[15:], [[-28]] * 3 + [[8, 14, 10]])
        self.assertEqual(
            ask(("begin", 6), ("first", 1), ("bestorder",), STATE, BACK)[2:], [[-28], [6, 0, 1], [0]]
        )

    def test_looking_is_none(self):
        more = [("would", [2, 1, 0]), ("would", []), ("right", [0, 0, 0]), ("right", [9]), ("without", 0, 0), ("without", 9, 9)]
        for call in seen(3) + more:
            with self.subTest(call=call):
                self.assertEqual(ask(*PATH, call, STATE, BACK, BACK, BACK)[4:], [[3, 2, 2], [1], [0], [-6]])


class State(unittest.TestCase):
    def test_places_lines_changes(self):
        steps = [
            (("begin", 4), [4, 0, 0]), (("line", 0, 3, 1), [4, 1, 1]), (("line", 0, 3, 2), [4, 1, 2]),
            (("line", 1, 3, 2), [4, 2, 3]), (("first", 3), [4, 2, 4]), (("cut", 1), [4, 1, 5]), (("cut", 0), [4, 0, 6]),
            (("cut", 0), [4, 0, 6]), (BACK, [4, 1, 5]), (("begin", 7), [7, 0, 0]), (("begin", 9), [7, 0, 0]),
        ]
        calls = [call for step, _ in steps for call in (step, STATE)]
        self.assertEqual(ask(*calls)[1::2], [state for _, state in steps])

    def test_no_more_than_ten_changes(self):
        for made in range(15):
            with self.subTest(made=made):
                self.assertEqual(last(("begin", 8), *[("first", 7)] * made, STATE), [8, 0, min(made, 10)])

    def test_the_most_changes(self):
        self.assertEqual(ask(("begin", 8), *[("first", v % 8) for v in range(254)], STATE)[-1], [8, 0, 10])


if __name__ == "__main__":
    unittest.main()
