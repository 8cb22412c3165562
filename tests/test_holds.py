"""What holds (a to f), over many objects, and the calls against a plain model."""

import unittest
from random import Random

from tests.helper import BUILT, TOP, Model, ask, best, distances, last, marks_of, number_of_marks, seen, tells_all


def some_object(chance, most):
    """Calls that make an object; how many places it has, its lines and its order."""
    n = chance.randint(1, most)
    pairs = [(a, b) for b in range(n) for a in range(b)]
    chance.shuffle(pairs)
    longest = chance.choice((1, 2, 4, 99))
    lines = [(a, b, chance.randint(1, longest)) for a, b in pairs[:chance.randint(0, 14)]]
    order = list(range(n))
    chance.shuffle(order)
    made = [("begin", n)] + [("line", *line) for line in lines] + [("order", order)]
    return made, n, lines, order


def marks_shown(made, n):
    """The marks of each place as the calls answer them."""
    found = ask(*made, *[("marks", v) for v in range(n)])[len(made):]
    for answer in found:
        assert len(answer) == 1 + 2 * answer[0]
    return [list(zip(answer[1::2], answer[2::2])) for answer in found]


class Holds(unittest.TestCase):
    def setUp(self):
        chance = Random(11)
        self.objects = [some_object(chance, 8) for _ in range(150)]

    def test_a_any_two_places_distance_is_told(self):
        for made, n, lines, order in self.objects:
            far = distances(n, lines)
            pairs = [(u, v) for u in range(n) for v in range(n)]
            found = ask(*made, *[("told", u, v) for u, v in pairs])[len(made):]
            with self.subTest(lines=lines, order=order):
                self.assertEqual(found, [[far.get(pair, -33)] for pair in pairs])
                self.assertTrue(tells_all(n, lines, marks_shown(made, n)))

    def test_b_the_first_on_shortest_ways(self):
        for made, n, lines, order in self.objects:
            with self.subTest(lines=lines, order=order):
                self.assertEqual(marks_shown(made, n), marks_of(n, lines, order))

    def test_c_no_mark_can_be_left_out(self):
        for made, n, lines, order in self.objects[:50]:
            marks = marks_shown(made, n)
            for v in range(n):
                for i in range(len(marks[v])):
                    fewer = marks[:v] + [marks[v][:i] + marks[v][i + 1:]] + marks[v + 1:]
                    with self.subTest(lines=lines, order=order, v=v, i=i):
                        self.assertFalse(tells_all(n, lines, fewer))

    def test_d_by_the_order_and_its_own_last(self):
        for made, n, lines, order in self.objects:
            for v, had in enumerate(marks_shown(made, n)):
                with self.subTest(lines=lines, order=order, v=v):
                    self.assertEqual(had[-1], (v, 0))
                    places = [order.index(place) for place, _ in had]
                    self.assertEqual(places, sorted(places))

    def test_e_no_order_needs_fewer_than_the_best(self):
        chance = Random(12)
        for _ in range(40):
            made, n, lines, _ = some_object(chance, 5)
            row = best(n, lines)
            with self.subTest(lines=lines):
                self.assertEqual(
                    ask(*made, ("bestorder",), ("orderis",))[len(made):], [[number_of_marks(n, lines, row)], [n] + row]
                )

    def test_f_what_is_refused_changes_nothing(self):
        for made, n, lines, order in self.objects[:50]:
            refused = [
                ("begin", 0), ("begin", 9), ("line", 0, n, 1), ("line", n, 0, 1), ("line", 0, 0, 1), ("line", 0, n - 1, 0),
                ("line", 0, n - 1, 100), ("cut", len(lines)), ("cut", TOP), ("order", []), ("order", order + [0]),
                ("order", order[:-1]), ("first", n), ("marks", n), ("told", n, 0), ("told", 0, n), ("right", []),
            ]
            found = ask(*made, *refused, *seen(n))[len(made):]
            with self.subTest(lines=lines, order=order):
                self.assertTrue(all(len(answer) == 1 and answer[0] < 0 for answer in found[:len(refused)]))
                self.assertEqual(found[len(refused):], ask(*made, *seen(n))[len(made):])

    def test_size_is_all_places_marks_together(self):
        for made, n, lines, order in self.objects:
            with self.subTest(lines=lines, order=order):
                number = sum(len(had) for had in marks_shown(made, n))
                self.assertEqual([last(*made), last(*made, ("size",))], [[number], [number]])


class AgainstTheModel(unittest.TestCase):
    def number(self, chance, top):
        """Mostly one that is there, at times one that isn't."""
        return chance.randint(0, top) if chance.random() < 0.95 else chance.choice((top + 1, 99, 100, 65536, TOP))

    def row(self, chance, n):
        row = list(range(n))
        chance.shuffle(row)
        if chance.random() < 0.2:
            row = [chance.randint(0, n) for _ in range(chance.randint(0, n + 1))]
        return row

    def marks_row(self, chance, model):
        row = []
        for had in model.all_marks():
            row += [len(had)] + [number for mark in had for number in mark]
        if row and chance.random() < 0.5:
            row[chance.randrange(len(row))] += 1
        return row

    def call(self, chance, model):
        names = [name for name in BUILT if name != "begin"] + ["line"] * 8 + ["cut"]
        name = "begin" if chance.random() < 0.03 else chance.choice(names)
        v = self.number(chance, max(model.n - 1, 0))
        u = self.number(chance, max(model.n - 1, 0))
        given = {
            "begin": [self.number(chance, 8)], "line": [u, v, self.number(chance, chance.choice((3, 99)))],
            "cut": [self.number(chance, len(model.joined))], "order": [self.row(chance, model.n)], "first": [v],
            "marks": [v], "told": [u, v], "right": [self.marks_row(chance, model)],
        }
        return (name, *given.get(name, []))

    def test_many_lists_of_calls(self):
        for seed in range(60):
            chance = Random(seed)
            model = Model()
            calls = []
            expected = []
            for step in range(120):
                call = ("begin", chance.randint(1, 8)) if step == 2 else self.call(chance, model)
                calls.append(call)
                expected.append(model.ask(*call))
            with self.subTest(seed=seed):
                self.assertEqual(ask(*calls), expected)


if __name__ == "__main__":
    unittest.main()
