"""Lines between places, and how far places are from one another along them.

A line is a tuple of its length, its lesser place and its other place: so
written, tuples compare as the lines' order asks.
"""

# Stands where no way leads, and where nothing is told; no distance is below 0.
NOTHING = -1


def lines_but(lines, a, b):
    """All lines but the one that joins a and b."""
    low = min(a, b)
    high = max(a, b)
    return [line for line in lines if line[1] != low or line[2] != high]


def with_line(lines, a, b, w):
    """The lines in their order, a and b joined by one of length w."""
    return sorted(lines_but(lines, a, b) + [(w, min(a, b), max(a, b))])


def shorter(known, one, other):
    """The lesser of a known distance and one that is made of two parts."""
    if one == NOTHING or other == NOTHING:
        return known
    if known == NOTHING or one + other < known:
        return one + other
    return known


def line_table(places, lines):
    """Distances along one line at most."""
    table = [[NOTHING] * places for place in range(places)]
    for place in range(places):
        table[place][place] = 0
    for w, a, b in lines:
        table[a][b] = w
        table[b][a] = w
    return table


def through(table, middle):
    """The distances when a way may lead through the middle place, too."""
    found = []
    for row in table:
        found.append([shorter(known, row[middle], far) for known, far in zip(row, table[middle])])
    return found


def distance_table(places, lines):
    """Row by row the distance of each place from each, NOTHING where no way leads."""
    table = line_table(places, lines)
    for middle in range(places):
        table = through(table, middle)
    return table
