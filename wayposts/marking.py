"""Marks by an order, what they tell, and the best order.

The marks of a place are a list of tuples: a place, and how far it is.
"""

from wayposts.ways import NOTHING


def told_by(ours, theirs):
    """What the marks of two places tell of their distance, or NOTHING."""
    least = NOTHING
    for place, near in ours:
        for other, far in theirs:
            if place == other and (least == NOTHING or near + far < least):
                least = near + far
    return least


def told_through(ours, theirs):
    """The first place of our marks by which the distance is told, or NOTHING."""
    least = told_by(ours, theirs)
    if least == NOTHING:
        return NOTHING
    return [mark[0] for mark in ours if told_by([mark], theirs) == least][0]


def marks_behind(table, marks, place):
    """The marks of all places when this place has marked, too."""
    # A new list is built, since all are held against the marks as they were
    # before this place marked any.
    behind = []
    for had, distance in zip(marks, table[place]):
        if distance == NOTHING or told_by(marks[place], had) == distance:
            behind.append(had)
        else:
            behind.append(had + [(place, distance)])
    return behind


def marks_by(table, order):
    """The marks of all places when each in the order has marked."""
    marks = [[] for distances in table]
    for place in order:
        marks = marks_behind(table, marks, place)
    return marks


def how_many(marks):
    """How many marks all places have together."""
    return sum([len(had) for had in marks])


def has_mark(had, place):
    """Whether this place is among the marks."""
    return place in [mark[0] for mark in had]


def without_mark(marks, place, number):
    """The marks of all places but the one of this place with this number."""
    fewer = list(marks)
    fewer[place] = marks[place][:number] + marks[place][number + 1:]
    return fewer


def one_longer(rows, places):
    """Each row with each place behind it that it doesn't have, in order."""
    longer = []
    for row in rows:
        for place in range(places):
            if place not in row:
                longer.append(row + [place])
    return longer


def all_orders(places):
    """All orders of the places, in order."""
    rows = [[]]
    for place in range(places):
        rows = one_longer(rows, places)
    return rows


def best_order(table):
    """The first of the orders by which there are the fewest marks."""
    best = []
    fewest = NOTHING
    for order in all_orders(len(table)):
        number = how_many(marks_by(table, order))
        if fewest == NOTHING or number < fewest:
            best = order
            fewest = number
    return best


def marks_in(row, places):
    """The marks that a row tells, place by place, or None if it doesn't."""
    marks = []
    at = 0
    for place in range(places):
        if at == len(row):
            return None
        end = at + 1 + 2 * row[at]
        if end > len(row):
            return None
        marks.append([(row[k], row[k + 1]) for k in range(at + 1, end, 2)])
        at = end
    if at < len(row):
        return None
    return marks


def all_right(table, marks):
    """Whether the marks tell each distance of the table, and nothing where no way leads."""
    for ours, distances in zip(marks, table):
        for theirs, distance in zip(marks, distances):
            if told_by(ours, theirs) != distance:
                return False
    return True


def right_pairs(table, marks):
    """Of how many pairs of two places the marks tell what the table has."""
    number = 0
    for v in range(len(table)):
        for u in range(v):
            if told_by(marks[u], marks[v]) == table[u][v]:
                number += 1
    return number
