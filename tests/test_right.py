"""right: whether marks of whatever kind tell all."""

import unittest

from tests.helper import ask, last, seen

PATH = [("begin", 3), ("line", 0, 1, 1), ("line", 1, 2, 2)]
ITS_OWN = [1, 0, 0, 2, 0, 1, 1, 0, 3, 0, 3, 1, 2, 2, 0]


class Right(unittest.TestCase):
    def test_its_own_marks(self):
        self.assertEqual(last(*PATH, ("right", ITS_OWN)), [1])

    def test_marks_by_another_order_and_turned_round(self):
        self.assertEqual(last(*PATH, ("right", [2, 0, 0, 1, 1, 1, 1, 0, 2, 2, 0, 1, 2])), [1])

    def test_more_marks_than_are_needed(self):
        self.assertEqual(last(*PATH, ("right", [3, 0, 0, 1, 1, 2, 3] + ITS_OWN[3:])), [1])

    def test_a_mark_left_out(self):
        self.assertEqual(last(*PATH, ("right", [1, 0, 0, 2, 0, 1, 1, 0, 2, 0, 3, 2, 0])), [0])

    def test_a_distance_too_far_or_too_near(self):
        for wrong in (2, 4):
            row = list(ITS_OWN)
            row[10] = wrong
            with self.subTest(wrong=wrong):
                self.assertEqual(last(*PATH, ("right", row)), [0])

    def test_none_of_a_places_own(self):
        # 0 and 1 are told rightly by 0's marks, but 1 isn't from itself.
        made = [("begin", 2), ("line", 0, 1, 5)]
        self.assertEqual(last(*made, ("right", [1, 0, 0, 1, 0, 5])), [0])
        self.assertEqual(last(*made, ("right", [1, 0, 0, 2, 0, 5, 1, 0])), [1])
        self.assertEqual(last(("begin", 1), ("right", [0])), [0])
        self.assertEqual(last(("begin", 1), ("right", [1, 0, 0])), [1])
        self.assertEqual(last(("begin", 1), ("right", [1, 0, 1])), [0])

    def test_places_that_are_not_there(self):
        self.assertEqual(last(("begin", 1), ("right", [1, 65535, 0])), [1])
        made = [("begin", 2), ("line", 0, 1, 5)]
        self.assertEqual(last(*made, ("right", [2, 70, 0, 71, 5, 1, 71, 0])), [1])

    def test_a_place_marked_twice(self):
        self.assertEqual(last(("begin", 1), ("right", [2, 0, 9, 0, 0])), [1])
        self.assertEqual(last(("begin", 2), ("line", 0, 1, 5), ("right", [2, 0, 9, 0, 0, 3, 0, 5, 0, 6, 1, 0])), [1])
        self.assertEqual(last(("begin", 2), ("line", 0, 1, 5), ("right", [2, 0, 9, 0, 0, 3, 0, 5, 0, 4, 1, 0])), [0])

    def test_nothing_where_no_way_leads(self):
        self.assertEqual(last(("begin", 2), ("right", [1, 0, 0, 1, 1, 0])), [1])
        self.assertEqual(last(("begin", 2), ("right", [1, 0, 0, 2, 0, 7, 1, 0])), [0])

    def test_rows_that_do_not_tell_marks_of_each_place(self):
        rows = [
            [], [0], [0, 0], [1], [1, 0, 0], ITS_OWN[:-1], ITS_OWN[:-2], ITS_OWN + [0], ITS_OWN + [1, 0, 0],
            [0, 0, 0, 0], [0, 0, 1], [0, 0, 1, 5], [65535] * 1000, [0] * 1000, [65535], [2, 0, 0, 0, 0],
        ]
        for row in rows:
            with self.subTest(row=row):
                self.assertEqual(ask(*PATH, ("right", row), ("size",))[3:], [[-22], [6]])

    def test_rows_that_tell_none_or_a_thousand_numbers(self):
        self.assertEqual(last(*PATH, ("right", [0, 0, 0])), [0])
        self.assertEqual(last(("begin", 2), ("right", [498] + [0, 0] * 498 + [1, 1, 0])), [1])
        self.assertEqual(last(("begin", 2), ("right", [497] + [0, 0] * 497 + [2, 1, 0, 0, 65535])), [0])

    def test_looking_changes_nothing(self):
        self.assertEqual(
            ask(*PATH, ("right", [1, 1, 0] * 3), ("right", []), *seen(3))[5:], ask(*PATH, *seen(3))[3:]
        )


if __name__ == "__main__":
    unittest.main()
