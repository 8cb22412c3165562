"""The one list that is handed in, and the one that comes back."""

import contextlib
import io
import unittest

from tests.helper import NAMES, TOP, ask, written
from wayposts.places import answers

CALLS = written(
    ("size",), ("begin", 4), ("line", 3, 0, 8), ("line", 1, 0, 8), ("order", [3, 1, 0, 2]), ("order", [3, 3]),
    ("first", 2), ("bestorder",), ("cut", 0), ("cut", 9), ("lines",), ("orderis",), ("marks", 3), ("told", 0, 3),
    ("told", 0, 2), ("right", [1, 0, 0, 1, 1, 0, 1, 2, 0, 2, 0, 8, 3, 0]), ("begin", 9), ("dist", 0, 3), ("dist", 0, 2),
    ("by", 0, 3), ("by", 0, 2), ("who", 0), ("without", 3, 0), ("after", 2), ("would", [3, 1, 0, 2]), ("would", [3, 3]),
    ("fewest",), ("back",), ("state",), ("back",), ("lines",), ("orderis",), ("state",),
)
# A call of each kind with the greatest numbers, and what is answered of three places and of none.
GREATEST = [
    (("begin", TOP), -22), (("line", TOP, TOP, TOP), -2), (("line", 0, 1, TOP), -22), (("cut", TOP), -2),
    (("order", [65535] * 100), -22), (("first", TOP), -2), (("marks", TOP), -2), (("told", TOP, TOP), -2),
    (("dist", TOP, TOP), -2), (("by", TOP, TOP), -2), (("who", TOP), -2), (("without", TOP, TOP), -2),
    (("without", 0, TOP), -2), (("after", TOP), -22), (("would", [65535] * 100), -22), (("right", [65535] * 1000), -22),
]
GIVEN = {
    "line": [0, 1, 1], "cut": [0], "order": [[0, 1, 2]], "first": [0], "marks": [0], "told": [0, 0], "dist": [0, 0],
    "by": [0, 0], "who": [0], "without": [0, 0], "after": [0], "would": [[0, 1, 2]], "right": [[0, 0, 0]],
}


class Fixed(list):
    """A list that can't be changed, not for a while either."""

    def refuse(self, *given, **named):
        raise AssertionError("what is handed in is changed")

    append = clear = extend = insert = pop = remove = reverse = sort = refuse
    __setitem__ = __delitem__ = __iadd__ = __imul__ = refuse


class Interface(unittest.TestCase):
    def test_counts_stand_before_the_answers(self):
        self.assertEqual(
            answers([9, 0, 2, 1, 1, 0, 7, 6, 7, 8, 1, 9, 10, 0, 1, 10, 0, 2, 3, 2, 1, 0, 3, 0, 5, 4, 0, 2, 0, 9]),
            [1, -11, 1, 0, 1, 3, 4, 1, 0, 1, 7, 3, 2, 0, 1, 5, 2, 0, 7, 1, 0, 1, 3, 1, 7, 1, -2, 1, 3, 1, -22,
             1, 3, 1, 3, 1, 2, 1, 2],
        )

    def test_counts_stand_before_the_answers_of_the_later_calls(self):
        self.assertEqual(
            answers([0, 2, 1, 0, 1, 5, 11, 0, 1, 12, 1, 0, 13, 0, 14, 1, 0, 15, 1, 16, 2, 1, 0, 17,
                     18, 8, 1, 0, 0, 2, 0, 5, 1, 0, 19, 20]),
            [1, 0, 1, 3, 1, 5, 1, 0, 3, 2, 0, 1, 1, 0, 2, 2, 1, 1, 3, 3, 3, 0, 1, 1, 1, 1, 0, 3, 2, 0, 0],
        )

    def test_a_refusal_is_its_number_alone(self):
        self.assertEqual(
            answers([0, 6, 11, 0, 1, 11, 6, 0, 12, 0, 1, 12, 0, 6, 13, 6, 14, 6, 0, 14, 0, 1, 15, 7, 16, 0, 17, 18, 0, 19]),
            [1, 0, 1, -33, 1, -2, 1, -33, 1, -2, 1, -2, 1, -2, 1, -2, 1, -22, 1, -22, 1, -28, 1, -22, 1, -6],
        )
        self.assertEqual(answers([17]), [1, -11])
        self.assertEqual(answers([13, 0, 15, 0, 20, 19, 16, 0]), [1, -11] * 5)

    def test_the_greatest_numbers(self):
        made = [("begin", 3), ("line", 0, 1, 1), ("line", 1, 2, 2)]
        for call, number in GREATEST:
            with self.subTest(call=call[:2]):
                self.assertEqual(ask(*made, call, ("state",))[3:], [[number], [3, 2, 2]])

    def test_all_that_is_told_is_there(self):
        calls = [("begin", 3)] + [(name, *GIVEN.get(name, [])) for name in NAMES[1:]]
        self.assertEqual([len(part) for part in ask(*calls)], [1] * 6 + [1, 4, 3, 1, 1, 1, 1, 2, 1, 2, 1, 4, 1, 1, 3])

    def test_each_call_by_its_number(self):
        for number, name in enumerate(NAMES):
            self.assertEqual(written((name,)), [number])

    def test_plain_whole_numbers_come_back(self):
        found = answers(CALLS)
        self.assertIs(type(found), list)
        self.assertEqual({type(number) for number in found}, {int})

    def test_what_is_handed_in_is_the_same_behind(self):
        calls = list(CALLS)
        answers(calls)
        self.assertEqual(calls, CALLS)

    def test_what_is_handed_in_is_not_changed_for_a_while(self):
        self.assertEqual(answers(Fixed(CALLS)), answers(CALLS))

    def test_a_second_time_answers_the_same(self):
        first = answers(CALLS)
        answers(written(("begin", 8), ("line", 0, 7, 99), ("first", 7)))
        self.assertEqual(answers(CALLS), first)
        self.assertEqual(ask(("size",)), [[-11]])

    def test_what_comes_back_is_not_kept(self):
        found = answers(CALLS)
        first = list(found)
        found.clear()
        self.assertEqual(answers(CALLS), first)

    def test_prints_nothing(self):
        out, err = io.StringIO(), io.StringIO()
        with contextlib.redirect_stdout(out), contextlib.redirect_stderr(err):
            answers(CALLS)
        self.assertEqual((out.getvalue(), err.getvalue()), ("", ""))

    def test_the_most_calls(self):
        made = [("begin", 8)] + [("line", v, v + 1, 99) for v in range(7)]
        calls = made + [("size",)] * (256 - len(made))
        self.assertEqual(ask(*calls)[8:], [[36]] * 248)
        made = [("begin", 5)] + [("line", v, v + 1, 99) for v in range(4)]
        calls = made + [("bestorder",)] * (256 - len(made))
        self.assertEqual(ask(*calls)[5:], [[11]] * 251)
        calls = made + [("fewest",)] * (256 - len(made))
        self.assertEqual(ask(*calls)[5:], [[11, 1, 0, 3, 2, 4]] * 251)

    def test_the_most_numbers(self):
        calls = [("begin", 8)] + [("order", [TOP % 65536] * 100)] * 255
        self.assertEqual(ask(*calls), [[0]] + [[-22]] * 255)
        calls = [("begin", 8)] + [("would", [TOP % 65536] * 100)] * 255
        self.assertEqual(ask(*calls), [[0]] + [[-22]] * 255)
        calls = [("begin", 1)] + [("right", [499] + [0, 0] * 499)] * 29
        self.assertEqual(ask(*calls), [[0]] + [[1]] * 29)


if __name__ == "__main__":
    unittest.main()
