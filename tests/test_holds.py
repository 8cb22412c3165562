"""What holds (a to f), over many objects, and the calls against a plain model."""

import unittest
from itertools import permutations
from random import Random

from tests.helper import (
    NAMES, TOP, Model, ask, best, distances, last, left_out, marks_of, number_of_marks, seen, tells_all,
)


# Which refusals each call has behind a begin; 0 stands for all that is no refusal.
DUE = {
    "begin": (0, -22), "line": (0, -2, -22, -28), "cut": (0, -2), "order": (0, -22), "first": (0, -2),
    "bestorder": (0, -28), "lines": (0,), "orderis": (0,), "marks": (0, -2), "size": (0,), "told": (0, -2, -33),
    "dist": (0, -2, -33), "by": (0, -2, -33), "who": (0, -2), "without": (0, -2), "after": (0, -22), "would": (0, -22),
    "fewest": (0, -28), "right": (0, -22), "back": (0, -6), "state": (0,),
}


def some_object(chance, most):
    """Calls that make an object; how many places it has, its lines and its order."""
    n = chance.randint(1, most)
    pairs = [(a, b) for b in range(n) for a in range(b)]
    chance.shuffle(pairs)
    longest = chance.choice((1, 2, 4, 99))
    number = chance.choice((chance.randint(0, n), chance.randint(0, 14), chance.randint(9, 14)))
    lines = [(a, b, chance.randint(1, longest)) for a, b in pairs[:number]]
    order = list(range(n))
    chance.shuffle(order)
    made = [("begin", n)] + [("line", *line) for line in lines] + [("order", order)]
    return made, n, lines, order


def marks_shown(made, n):
    """The marks of each place as the calls answer them."""
    found = ask(*made, *[("marks", v) for v in range(n)])[len(made):]
    for answer in found:
        assert len(answer) == 1 + 2 * answer[0]
    return [list(zip(answer[1::2], answer[2::2])) for answer in found]


def some_change(chance, n):
    """A call that may be a change, on an object of so many places."""
    row = list(range(n))
    chance.shuffle(row)
    line = ("line", chance.randrange(n), chance.randrange(n), chance.randint(1, chance.choice((2, 99))))
    return chance.choice((line, line, ("cut", chance.randrange(4)), ("order", row), ("first", row[0]), ("bestorder",)))


class Holds(unittest.TestCase):
    @classmethod
    def setUpClass(cls):
        chance = Random(11)
        cls.objects = [some_object(chance, 8) for _ in range(250)]

    def test_objects_of_all_kinds_are_drawn(self):
        kinds = set()
        for _, n, lines, order in self.objects:
            kinds |= {("places", n), ("lines", len(lines)), ("rising", order == sorted(order))}
            if n > 2 and lines:
                kinds.add(("one piece", len(distances(n, lines)) == n * n))
                kinds.add(("like lengths", len({w for _, _, w in lines}) < len(lines)))
        for kind in ("rising", "one piece", "like lengths"):
            self.assertTrue({(kind, True), (kind, False)} <= kinds, kind)
        self.assertTrue({("places", n) for n in range(1, 9)} | {("lines", k) for k in range(15)} <= kinds)

    def test_a_any_two_places_distance_is_told(self):
        for made, n, lines, order in self.objects:
            far = distances(n, lines)
            pairs = [(u, v) for u in range(n) for v in range(n)]
            found = ask(*made, *[(name, u, v) for name in ("told", "dist") for u, v in pairs])[len(made):]
            with self.subTest(lines=lines, order=order):
                self.assertEqual(found, [[far.get(pair, -33)] for pair in pairs] * 2)
                self.assertEqual(last(*made, ("after", n))[1], n * (n - 1) // 2)
                self.assertTrue(tells_all(n, lines, marks_shown(made, n)))

    def test_b_the_first_on_shortest_ways(self):
        for made, n, lines, order in self.objects:
            with self.subTest(lines=lines, order=order):
                marks = marks_of(n, lines, order)
                self.assertEqual(marks_shown(made, n), marks)
                having = [[v for v in range(n) if h in dict(marks[v])] for h in range(n)]
                self.assertEqual(
                    ask(*made, *[("who", h) for h in range(n)])[len(made):], [[len(row)] + row for row in having]
                )

    def test_c_no_mark_can_be_left_out(self):
        for made, n, lines, order in self.objects[:80]:
            marks = marks_shown(made, n)
            numbers = [(v, i) for v in range(n) for i in range(len(marks[v]))]
            with self.subTest(lines=lines, order=order):
                self.assertFalse(any(tells_all(n, lines, left_out(marks, v, i)) for v, i in numbers))
                found = ask(*made, *[("without", v, i) for v, i in numbers])[len(made):]
                self.assertEqual(found, [[0]] * len(numbers))
                none = [("without", v, len(marks[v])) for v in range(n)]
                self.assertEqual(ask(*made, *none)[len(made):], [[-2]] * n)

    def test_c_so_does_right_say(self):
        for made, n, lines, order in self.objects[:80]:
            marks = marks_shown(made, n)
            rows = [marks] + [left_out(marks, v, i) for v in range(n) for i in range(len(marks[v]))]
            calls = []
            for row in rows:
                calls.append(("right", [number for had in row for number in [len(had)] + [x for m in had for x in m]]))
            with self.subTest(lines=lines, order=order):
                self.assertEqual(ask(*made, *calls)[len(made):], [[1]] + [[0]] * (len(rows) - 1))

    def test_d_by_the_order_and_its_own_last(self):
        for made, n, lines, order in self.objects:
            for v, had in enumerate(marks_shown(made, n)):
                with self.subTest(lines=lines, order=order, v=v):
                    self.assertEqual(had[-1], (v, 0))
                    places = [order.index(place) for place, _ in had]
                    self.assertEqual(places, sorted(places))

    def test_e_no_order_needs_fewer_than_the_best(self):
        chance = Random(12)
        for _ in range(40):
            made, n, lines, _ = some_object(chance, 5)
            row = best(n, lines)
            number = number_of_marks(n, lines, row)
            orders = [list(order) for order in permutations(range(n))]
            with self.subTest(lines=lines):
                self.assertEqual(
                    ask(*made, ("fewest",), ("bestorder",), ("orderis",), ("size",))[len(made):],
                    [[number] + row, [number], [n] + row, [number]],
                )
                sizes = ask(*made, *[("would", order) for order in orders])[len(made):]
                self.assertEqual(sizes, [[number_of_marks(n, lines, order)] for order in orders])
                self.assertEqual(orders[sizes.index(min(sizes))], row)

    def test_f_taken_back_all_is_as_it_was(self):
        chance = Random(13)
        for made, n, lines, order in self.objects[:100]:
            more = [some_change(chance, n) for _ in range(chance.randint(1, 16))]
            found = ask(*made, *more)[len(made):]
            changes = [call for call, answer in zip(more, found) if answer[0] >= 0]
            taken = chance.randint(0, min(len(changes), 10))
            left = changes[:len(changes) - taken]
            looks = [call for call in seen(n) if call != ("state",)]
            with self.subTest(lines=lines, order=order, more=more, taken=taken):
                self.assertEqual(
                    ask(*made, *more, *[("back",)] * taken, *looks)[-len(looks):], ask(*made, *left, *looks)[-len(looks):]
                )

    def test_f_looking_changes_nothing(self):
        for made, n, lines, order in self.objects[:50]:
            shows = [("lines",), ("state",), ("orderis",), ("size",)] + [("marks", v) for v in range(n)]
            looks = seen(n) + [("would", order), ("without", 0, 0), ("right", [0] * n)]
            found = ask(*made, *shows, *looks, *shows)[len(made):]
            with self.subTest(lines=lines, order=order):
                self.assertEqual(found[-len(shows):], found[:len(shows)])

    def test_f_what_is_refused_changes_nothing(self):
        for made, n, lines, order in self.objects[:50]:
            refused = [
                ("begin", 0), ("begin", 9), ("line", 0, n, 1), ("line", n, 0, 1), ("line", 0, 0, 1), ("line", 0, n - 1, 0),
                ("line", 0, n - 1, 100), ("cut", len(lines)), ("cut", TOP), ("order", []), ("order", order + [0]),
                ("order", order[:-1]), ("first", n), ("marks", n), ("told", n, 0), ("told", 0, n), ("right", []),
                ("dist", n, 0), ("dist", 0, n), ("by", n, 0), ("by", 0, n), ("who", n), ("without", n, 0),
                ("without", 0, n), ("after", n + 1), ("would", []), ("would", order + [n]),
            ]
            found = ask(*made, *refused, *seen(n))[len(made):]
            with self.subTest(lines=lines, order=order):
                self.assertTrue(all(len(answer) == 1 and answer[0] < 0 for answer in found[:len(refused)]))
                self.assertEqual(found[len(refused):], ask(*made, *seen(n))[len(made):])

    def test_size_is_all_places_marks_together(self):
        for made, n, lines, order in self.objects:
            with self.subTest(lines=lines, order=order):
                number = sum(len(had) for had in marks_shown(made, n))
                self.assertEqual([last(*made), last(*made, ("size",))], [[number], [number]])


class AgainstTheModel(unittest.TestCase):
    def number(self, chance, top):
        """Mostly one that is there, at times one that isn't."""
        return chance.randint(0, top) if chance.random() < 0.95 else chance.choice((top + 1, 99, 100, 65536, TOP))

    def row(self, chance, n):
        row = list(range(n))
        chance.shuffle(row)
        if chance.random() < 0.2:
            row = [chance.randint(0, n) for _ in range(chance.randint(0, n + 1))]
        return row

    def marks_row(self, chance, model):
        row = []
        for had in model.all_marks():
            row += [len(had)] + [number for mark in had for number in mark]
        if row and chance.random() < 0.5:
            row[chance.randrange(len(row))] += 1
        return row

    def call(self, chance, model):
        names = list(NAMES[1:]) + ["line"] * 8 + ["cut", "back", "by", "after"]
        name = "begin" if chance.random() < 0.03 else chance.choice(names)
        v = self.number(chance, max(model.n - 1, 0))
        u = self.number(chance, max(model.n - 1, 0))
        given = {
            "begin": [self.number(chance, 8)], "line": [u, v, self.number(chance, chance.choice((3, 99)))],
            "cut": [self.number(chance, len(model.joined))], "order": [self.row(chance, model.n)], "first": [v],
            "marks": [v], "told": [u, v], "right": [self.marks_row(chance, model)], "dist": [u, v], "by": [u, v], "who": [v],
            "without": [v, self.number(chance, 3)], "after": [self.number(chance, model.n)],
            "would": [self.row(chance, model.n)],
        }
        return (name, *given.get(name, []))

    def test_many_lists_of_calls(self):
        met = set()
        for seed in range(60):
            chance = Random(seed)
            model = Model()
            calls = []
            expected = []
            for step in range(256):
                call = ("begin", chance.randint(1, 8)) if step == 2 else self.call(chance, model)
                calls.append(call)
                expected.append(model.ask(*call))
                met.add((call[0], min(expected[-1][0], 0)))
            with self.subTest(seed=seed):
                self.assertEqual(ask(*calls), expected)
        self.assertEqual({(name, number) for name in NAMES for number in DUE[name]} - met, set())


if __name__ == "__main__":
    unittest.main()
