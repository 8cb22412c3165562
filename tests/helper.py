"""Calls by their names, for the tests, and a plain model to hold the program against."""

from itertools import permutations

from wayposts.places import answers

NAMES = (
    "begin", "line", "cut", "order", "first", "bestorder", "lines", "orderis", "marks", "size", "told",
    "dist", "by", "who", "without", "after", "would", "fewest", "right", "back", "state",
)
BUILT = NAMES[:11] + ("right",)
TOP = 4294967295


def written(*calls):
    """The list of numbers for calls like ("line", 0, 1, 5) or ("order", [0, 1])."""
    numbers = []
    for name, *given in calls:
        numbers.append(NAMES.index(name))
        for value in given:
            if isinstance(value, list):
                numbers.append(len(value))
                numbers.extend(value)
            else:
                numbers.append(value)
    return numbers


def split(found):
    """The answers, one list for each call."""
    parts = []
    at = 0
    while at < len(found):
        end = at + 1 + found[at]
        parts.append(found[at + 1:end])
        at = end
    assert at == len(found)
    return parts


def ask(*calls):
    """What each of these calls answers."""
    parts = split(answers(written(*calls)))
    assert len(parts) == len(calls)
    return parts


def last(*calls):
    """What the last of these calls answers."""
    return ask(*calls)[-1]


def seen(places):
    """Calls that show all that can be seen of an object."""
    looks = [("lines",), ("orderis",), ("size",)]
    looks += [("marks", v) for v in range(places)]
    looks += [("told", u, v) for u in range(places) for v in range(places)]
    return looks


def distances(places, lines):
    """By growing ways a line at a time: {(u, v): distance} for pairs that a way joins."""
    far = {(v, v): 0 for v in range(places)}
    for _ in range(places):
        for a, b, w in lines:
            for u in range(places):
                for x, y in ((a, b), (b, a)):
                    if (u, x) in far:
                        far[u, y] = min(far.get((u, y), TOP), far[u, x] + w)
    return far


def marks_of(places, lines, order):
    """By what the document says under b: not place after place, as the program does."""
    far = distances(places, lines)
    marks = [[] for _ in range(places)]
    for u in range(places):
        for h in order:
            if (u, h) in far:
                between = [m for m in order if (u, m) in far and far[u, m] + far[m, h] == far[u, h]]
                if between[0] == h:
                    marks[u].append((h, far[u, h]))
    return marks


def told_by(ours, theirs):
    """The least over marks of a place that both have, or None."""
    return min((d + e for h, d in ours for k, e in theirs if h == k), default=None)


def tells_all(places, lines, marks):
    far = distances(places, lines)
    return all(
        told_by(marks[u], marks[v]) == far.get((u, v)) for u in range(places) for v in range(places)
    )


def number_of_marks(places, lines, order):
    return sum(len(had) for had in marks_of(places, lines, order))


def best(places, lines):
    return list(min(permutations(range(places)), key=lambda order: number_of_marks(places, lines, order)))


class Model:
    """The calls that are there, told as shortly as the document tells them."""

    def __init__(self):
        self.n = 0
        self.joined = {}
        self.row = []

    def ask(self, name, *given):
        if name != "begin" and self.n == 0:
            return [-11]
        return getattr(self, name)(*given)

    def sorted_lines(self):
        return sorted(((a, b, w) for (a, b), w in self.joined.items()), key=lambda line: (line[2], line[0], line[1]))

    def all_marks(self):
        return marks_of(self.n, self.sorted_lines(), self.row)

    def begin(self, n):
        if n not in range(1, 9):
            return [-22]
        self.n, self.joined, self.row = n, {}, list(range(n))
        return [0]

    def line(self, a, b, w):
        pair = (min(a, b), max(a, b))
        if pair[1] >= self.n:
            return [-2]
        if a == b or w not in range(1, 100):
            return [-22]
        if len(self.joined) == 14 and pair not in self.joined:
            return [-28]
        self.joined[pair] = w
        return self.size()

    def cut(self, i):
        if i >= len(self.joined):
            return [-2]
        del self.joined[self.sorted_lines()[i][:2]]
        return self.size()

    def order(self, row):
        if len(row) != self.n or set(row) != set(range(self.n)):
            return [-22]
        self.row = list(row)
        return self.size()

    def first(self, v):
        if v >= self.n:
            return [-2]
        self.row.remove(v)
        self.row.insert(0, v)
        return self.size()

    def bestorder(self):
        if self.n > 5:
            return [-28]
        self.row = best(self.n, self.sorted_lines())
        return self.size()

    def lines(self):
        return [len(self.joined)] + [number for line in self.sorted_lines() for number in line]

    def orderis(self):
        return [self.n] + self.row

    def marks(self, v):
        if v >= self.n:
            return [-2]
        had = self.all_marks()[v]
        return [len(had)] + [number for mark in had for number in mark]

    def size(self):
        return [sum(len(had) for had in self.all_marks())]

    def told(self, u, v):
        if u >= self.n or v >= self.n:
            return [-2]
        distance = distances(self.n, self.sorted_lines()).get((u, v))
        return [-33] if distance is None else [distance]

    def right(self, row):
        rest = list(row)
        marks = []
        for _ in range(self.n):
            if not rest or 2 * rest[0] >= len(rest):
                return [-22]
            number = rest.pop(0)
            marks.append([(rest.pop(0), rest.pop(0)) for _ in range(number)])
        if rest:
            return [-22]
        return [int(tells_all(self.n, self.sorted_lines(), marks))]
