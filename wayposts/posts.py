"""The object that the calls are about: places, their lines and an order.

Each call is a method; it answers a list of numbers, a refusal's alone.
"""

from wayposts.marking import all_right, best_order, how_many, marks_by, marks_in, told_by
from wayposts.ways import NOTHING, distance_table, lines_but, with_line

NO_SUCH = -2
OUT_OF_RANGE = -22
TOO_MANY = -28
THERE_IS_NONE = -33

MOST_PLACES = 8
MOST_LINES = 14
MOST_LENGTH = 99
# With more places than these, all orders are too many to try.
MOST_TRIED = 5


# There are no places before a begin. Distances and marks are not kept: they
# follow from what is, so they can't be behind it.
class Posts:
    def __init__(self):
        self.places = 0
        self.lines = []
        self.order = []

    def begun(self):
        return self.places > 0

    def table(self):
        return distance_table(self.places, self.lines)

    def all_marks(self):
        return marks_by(self.table(), self.order)

    def begin(self, n):
        if n < 1 or n > MOST_PLACES:
            return [OUT_OF_RANGE]
        self.places = n
        self.lines = []
        self.order = list(range(n))
        return [0]

    def line(self, a, b, w):
        if a >= self.places or b >= self.places:
            return [NO_SUCH]
        if a == b or w < 1 or w > MOST_LENGTH:
            return [OUT_OF_RANGE]
        if len(lines_but(self.lines, a, b)) >= MOST_LINES:
            return [TOO_MANY]
        self.lines = with_line(self.lines, a, b, w)
        return self.size()

    def cut(self, i):
        if i >= len(self.lines):
            return [NO_SUCH]
        self.lines = self.lines[:i] + self.lines[i + 1:]
        return self.size()

    def take_order(self, row):
        if sorted(row) != list(range(self.places)):
            return [OUT_OF_RANGE]
        self.order = list(row)
        return self.size()

    def put_first(self, v):
        if v >= self.places:
            return [NO_SUCH]
        self.order = [v] + [place for place in self.order if place != v]
        return self.size()

    def take_best(self):
        if self.places > MOST_TRIED:
            return [TOO_MANY]
        self.order = best_order(self.table())
        return self.size()

    def show_lines(self):
        shown = [len(self.lines)]
        for w, a, b in self.lines:
            shown.extend([a, b, w])
        return shown

    def show_order(self):
        return [self.places] + self.order

    def show_marks(self, v):
        if v >= self.places:
            return [NO_SUCH]
        marks = self.all_marks()[v]
        shown = [len(marks)]
        for place, distance in marks:
            shown.extend([place, distance])
        return shown

    def size(self):
        return [how_many(self.all_marks())]

    def told(self, u, v):
        if u >= self.places or v >= self.places:
            return [NO_SUCH]
        marks = self.all_marks()
        distance = told_by(marks[u], marks[v])
        if distance == NOTHING:
            return [THERE_IS_NONE]
        return [distance]

    def right(self, row):
        marks = marks_in(row, self.places)
        if marks is None:
            return [OUT_OF_RANGE]
        if all_right(self.table(), marks):
            return [1]
        return [0]
