"""The object that the calls are about: places, their lines and an order.

Each call is a method; it answers a list of numbers, a refusal's alone.
"""

from wayposts.marking import all_right, best_order, has_mark, how_many, marks_by, marks_in, right_pairs
from wayposts.marking import told_by, told_through, without_mark
from wayposts.ways import NOTHING, distance_table, lines_but, with_line

NO_SUCH = -2
NO_CHANGE = -6
OUT_OF_RANGE = -22
TOO_MANY = -28
THERE_IS_NONE = -33

MOST_PLACES = 8
MOST_LINES = 14
MOST_LENGTH = 99
# With more places than these, all orders are too many to try.
MOST_TRIED = 5
MOST_TAKEN_BACK = 10


def or_none(number):
    """The answer where a number may be NOTHING."""
    if number == NOTHING:
        return [THERE_IS_NONE]
    return [number]


# There are no places before a begin. Distances and marks are not kept: they
# follow from what is, so they can't be behind it.
class Posts:
    def __init__(self):
        self.places = 0
        self.lines = []
        self.order = []
        self.past = []

    def begun(self):
        return self.places > 0

    def has_place(self, place):
        return place < self.places

    def has_both(self, u, v):
        return self.has_place(u) and self.has_place(v)

    def is_order(self, row):
        return sorted(row) == list(range(self.places))

    def table(self):
        return distance_table(self.places, self.lines)

    def all_marks(self):
        return marks_by(self.table(), self.order)

    def tells_all(self, marks):
        if all_right(self.table(), marks):
            return [1]
        return [0]

    def change(self, lines, order):
        # The lists themselves are kept: each change brings new ones, and
        # alters none that were there.
        past = self.past + [(self.lines, self.order)]
        self.past = past[-MOST_TAKEN_BACK:]
        self.lines = lines
        self.order = order
        return self.size()

    def begin(self, n):
        if n < 1 or n > MOST_PLACES:
            return [OUT_OF_RANGE]
        self.places = n
        self.lines = []
        self.order = list(range(n))
        self.past = []
        return [0]

    def back(self):
        if len(self.past) == 0:
            return [NO_CHANGE]
        was = self.past[-1]
        self.past = self.past[:-1]
        self.lines = was[0]
        self.order = was[1]
        return [len(self.past)]

    def state(self):
        return [self.places, len(self.lines), len(self.past)]

    def line(self, a, b, w):
        if not self.has_both(a, b):
            return [NO_SUCH]
        if a == b or w < 1 or w > MOST_LENGTH:
            return [OUT_OF_RANGE]
        if len(lines_but(self.lines, a, b)) >= MOST_LINES:
            return [TOO_MANY]
        return self.change(with_line(self.lines, a, b, w), self.order)

    def cut(self, i):
        if i >= len(self.lines):
            return [NO_SUCH]
        return self.change(self.lines[:i] + self.lines[i + 1:], self.order)

    def take_order(self, row):
        if not self.is_order(row):
            return [OUT_OF_RANGE]
        return self.change(self.lines, list(row))

    def put_first(self, v):
        if not self.has_place(v):
            return [NO_SUCH]
        return self.change(self.lines, [v] + [place for place in self.order if place != v])

    def take_best(self):
        if self.places > MOST_TRIED:
            return [TOO_MANY]
        return self.change(self.lines, best_order(self.table()))

    def show_lines(self):
        shown = [len(self.lines)]
        for w, a, b in self.lines:
            shown.extend([a, b, w])
        return shown

    def show_order(self):
        return [self.places] + self.order

    def show_marks(self, v):
        if not self.has_place(v):
            return [NO_SUCH]
        marks = self.all_marks()[v]
        shown = [len(marks)]
        for place, distance in marks:
            shown.extend([place, distance])
        return shown

    def size(self):
        return [how_many(self.all_marks())]

    def told(self, u, v):
        if not self.has_both(u, v):
            return [NO_SUCH]
        marks = self.all_marks()
        return or_none(told_by(marks[u], marks[v]))

    def dist(self, u, v):
        if not self.has_both(u, v):
            return [NO_SUCH]
        return or_none(self.table()[u][v])

    def by(self, u, v):
        if not self.has_both(u, v):
            return [NO_SUCH]
        marks = self.all_marks()
        return or_none(told_through(marks[u], marks[v]))

    def who(self, h):
        if not self.has_place(h):
            return [NO_SUCH]
        having = [place for place, had in enumerate(self.all_marks()) if has_mark(had, h)]
        return [len(having)] + having

    def without(self, v, i):
        if not self.has_place(v):
            return [NO_SUCH]
        marks = self.all_marks()
        if i >= len(marks[v]):
            return [NO_SUCH]
        return self.tells_all(without_mark(marks, v, i))

    def after(self, k):
        if k > self.places:
            return [OUT_OF_RANGE]
        table = self.table()
        marks = marks_by(table, self.order[:k])
        return [how_many(marks), right_pairs(table, marks)]

    def would(self, row):
        if not self.is_order(row):
            return [OUT_OF_RANGE]
        return [how_many(marks_by(self.table(), row))]

    def fewest(self):
        if self.places > MOST_TRIED:
            return [TOO_MANY]
        best = best_order(self.table())
        return self.would(best) + best

    def right(self, row):
        marks = marks_in(row, self.places)
        if marks is None:
            return [OUT_OF_RANGE]
        return self.tells_all(marks)
