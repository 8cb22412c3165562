"""Calls by their names, for the tests, and a plain model to hold the program against."""

from functools import lru_cache
from itertools import combinations, permutations

from wayposts.places import answers

NAMES = (
    "begin", "line", "cut", "order", "first", "bestorder", "lines", "orderis", "marks", "size", "told",
    "dist", "by", "who", "without", "after", "would", "fewest", "right", "back", "state",
)
TOP = 4294967295
MOST_CALLS = 256
MOST_NUMBERS = 30000


def written(*calls):
    """The list of numbers for calls like ("line", 0, 1, 5) or ("order", [0, 1])."""
    numbers = []
    for name, *given in calls:
        numbers.append(NAMES.index(name))
        for value in given:
            if isinstance(value, list):
                numbers.append(len(value))
                numbers.extend(value)
            else:
                numbers.append(value)
    return numbers


def split(found):
    """The answers, one list for each call."""
    parts = []
    at = 0
    while at < len(found):
        end = at + 1 + found[at]
        parts.append(found[at + 1:end])
        at = end
    assert at == len(found)
    return parts


def ask(*calls):
    """What each of these calls answers."""
    numbers = written(*calls)
    assert len(calls) <= MOST_CALLS and len(numbers) <= MOST_NUMBERS
    parts = split(answers(numbers))
    assert len(parts) == len(calls)
    return parts


def last(*calls):
    """What the last of these calls answers."""
    return ask(*calls)[-1]


def seen(places):
    """Calls that show all that can be seen of an object; lines and state first."""
    pairs = [(u, v) for v in range(places) for u in range(v + 1)]
    looks = [("lines",), ("state",), ("orderis",), ("size",), ("fewest",)]
    looks += [(name, v) for name in ("marks", "who") for v in range(places)]
    looks += [("after", k) for k in range(places + 1)]
    looks += [(name, u, v) for name in ("told", "dist", "by") for u, v in pairs]
    return looks


def distances(places, lines):
    """{(u, v): distance} for pairs that a way joins."""
    return dict(grown(places, tuple(lines)))


@lru_cache(maxsize=16)
def grown(places, lines):
    """By growing ways a line at a time: not place after place, as the program does."""
    far = {(v, v): 0 for v in range(places)}
    for _ in range(places):
        for a, b, w in lines:
            for u in range(places):
                for x, y in ((a, b), (b, a)):
                    if (u, x) in far:
                        far[u, y] = min(far.get((u, y), TOP), far[u, x] + w)
    return far


def marks_of(places, lines, order):
    """By what the document says under b: not by what is told so far, as the program does."""
    far = distances(places, lines)
    marks = [[] for _ in range(places)]
    for u in range(places):
        for h in order:
            if (u, h) in far:
                between = [m for m in order if (u, m) in far and far[u, m] + far[m, h] == far[u, h]]
                if between[0] == h:
                    marks[u].append((h, far[u, h]))
    return marks


def told_by(ours, theirs):
    """The least over marks of a place that both have, or None."""
    return min((d + e for h, d in ours for k, e in theirs if h == k), default=None)


def tells_all(places, lines, marks):
    far = distances(places, lines)
    return all(
        told_by(marks[u], marks[v]) == far.get((u, v)) for u in range(places) for v in range(places)
    )


def number_of_marks(places, lines, order):
    return sum(len(had) for had in marks_of(places, lines, order))


def best(places, lines):
    return list(min(permutations(range(places)), key=lambda order: number_of_marks(places, lines, order)))


def left_out(marks, v, i):
    """The marks of all places without mark i of v."""
    return [[mark for k, mark in enumerate(had) if (u, k) != (v, i)] for u, had in enumerate(marks)]


class Model:
    """The calls, told as shortly as the document tells them."""

    def __init__(self):
        self.n = 0
        self.joined = {}
        self.row = []
        self.past = []

    def ask(self, name, *given):
        if name != "begin" and self.n == 0:
            return [-11]
        was = (dict(self.joined), list(self.row))
        found = getattr(self, name)(*given)
        if name in ("line", "cut", "order", "first", "bestorder") and found[0] >= 0:
            self.past.append(was)
            del self.past[:-10]
        return found

    def sorted_lines(self):
        return sorted(((a, b, w) for (a, b), w in self.joined.items()), key=lambda line: (line[2], line[0], line[1]))

    def all_marks(self):
        return marks_of(self.n, self.sorted_lines(), self.row)

    def begin(self, n):
        if n not in range(1, 9):
            return [-22]
        self.n, self.joined, self.row, self.past = n, {}, list(range(n)), []
        return [0]

    def back(self):
        if not self.past:
            return [-6]
        self.joined, self.row = self.past.pop()
        return [len(self.past)]

    def state(self):
        return [self.n, len(self.joined), len(self.past)]

    def line(self, a, b, w):
        pair = (min(a, b), max(a, b))
        if pair[1] >= self.n:
            return [-2]
        if a == b or w not in range(1, 100):
            return [-22]
        if len(self.joined) == 14 and pair not in self.joined:
            return [-28]
        self.joined[pair] = w
        return self.size()

    def cut(self, i):
        if i >= len(self.joined):
            return [-2]
        del self.joined[self.sorted_lines()[i][:2]]
        return self.size()

    def order(self, row):
        if len(row) != self.n or set(row) != set(range(self.n)):
            return [-22]
        self.row = list(row)
        return self.size()

    def first(self, v):
        if v >= self.n:
            return [-2]
        self.row.remove(v)
        self.row.insert(0, v)
        return self.size()

    def bestorder(self):
        if self.n > 5:
            return [-28]
        self.row = best(self.n, self.sorted_lines())
        return self.size()

    def lines(self):
        return [len(self.joined)] + [number for line in self.sorted_lines() for number in line]

    def orderis(self):
        return [self.n] + self.row

    def marks(self, v):
        if v >= self.n:
            return [-2]
        had = self.all_marks()[v]
        return [len(had)] + [number for mark in had for number in mark]

    def size(self):
        return [sum(len(had) for had in self.all_marks())]

    def dist(self, u, v):
        if u >= self.n or v >= self.n:
            return [-2]
        return [distances(self.n, self.sorted_lines()).get((u, v), -33)]

    def told(self, u, v):
        # All distances are told, says the document under a.
        return self.dist(u, v)

    def by(self, u, v):
        distance = self.dist(u, v)
        if distance[0] < 0:
            return distance
        ours, theirs = self.all_marks()[u], dict(self.all_marks()[v])
        return [next(h for h, d in ours if h in theirs and [d + theirs[h]] == distance)]

    def who(self, h):
        if h >= self.n:
            return [-2]
        having = [v for v, had in enumerate(self.all_marks()) if h in dict(had)]
        return [len(having)] + having

    def without(self, v, i):
        marks = self.all_marks()
        if v >= self.n or i >= len(marks[v]):
            return [-2]
        return [int(tells_all(self.n, self.sorted_lines(), left_out(marks, v, i)))]

    def after(self, k):
        if k > self.n:
            return [-22]
        # Marks come behind those that are there: so far there are those of the first k.
        marks = [[(h, d) for h, d in had if h in self.row[:k]] for had in self.all_marks()]
        far = distances(self.n, self.sorted_lines())
        right = [pair for pair in combinations(range(self.n), 2)
                 if told_by(marks[pair[0]], marks[pair[1]]) == far.get(pair)]
        return [sum(len(had) for had in marks), len(right)]

    def would(self, row):
        if len(row) != self.n or set(row) != set(range(self.n)):
            return [-22]
        return [number_of_marks(self.n, self.sorted_lines(), row)]

    def fewest(self):
        if self.n > 5:
            return [-28]
        row = best(self.n, self.sorted_lines())
        return self.would(row) + row

    def right(self, row):
        rest = list(row)
        marks = []
        for _ in range(self.n):
            if not rest or 2 * rest[0] >= len(rest):
                return [-22]
            number = rest.pop(0)
            marks.append([(rest.pop(0), rest.pop(0)) for _ in range(number)])
        if rest:
            return [-22]
        return [int(tells_all(self.n, self.sorted_lines(), marks))]
