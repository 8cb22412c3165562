"""A list of calls on one new object, and what they answer."""

from wayposts.posts import Posts

NOT_BEGUN = -11

BEGIN = 0
LINE = 1
CUT = 2
ORDER = 3
FIRST = 4
BESTORDER = 5
LINES = 6
ORDERIS = 7
MARKS = 8
SIZE = 9
TOLD = 10
DIST = 11
BY = 12
WHO = 13
WITHOUT = 14
AFTER = 15
WOULD = 16
FEWEST = 17
RIGHT = 18
BACK = 19

# By a call's number: how many whole numbers stand behind it. The calls with a
# row (order, would, right) have none but the row, with its length before it.
NUMBERS = (1, 3, 1, 0, 1, 0, 0, 0, 1, 0, 2, 2, 2, 1, 2, 1, 0, 0, 0, 0, 0)
WITH_ROW = (3, 16, 18)


def given_start(calls, at):
    """Where the numbers that are given to the call at this place begin."""
    if calls[at] in WITH_ROW:
        return at + 2
    return at + 1


def given_end(calls, at):
    """Where they end, and the next call begins."""
    if calls[at] in WITH_ROW:
        return at + 2 + calls[at + 1]
    return at + 1 + NUMBERS[calls[at]]


def change(posts, number, given):
    """What a call answers that is a change, if it isn't refused."""
    if number == LINE:
        return posts.line(given[0], given[1], given[2])
    if number == CUT:
        return posts.cut(given[0])
    if number == ORDER:
        return posts.take_order(given)
    if number == FIRST:
        return posts.put_first(given[0])
    return posts.take_best()


def look(posts, number, given):
    """What a call answers that shows what is there."""
    if number == LINES:
        return posts.show_lines()
    if number == ORDERIS:
        return posts.show_order()
    if number == MARKS:
        return posts.show_marks(given[0])
    if number == SIZE:
        return posts.size()
    if number == TOLD:
        return posts.told(given[0], given[1])
    if number == DIST:
        return posts.dist(given[0], given[1])
    if number == BY:
        return posts.by(given[0], given[1])
    return posts.who(given[0])


def weigh(posts, number, given):
    """What a call answers about other marks and orders than those that are there."""
    if number == WITHOUT:
        return posts.without(given[0], given[1])
    if number == AFTER:
        return posts.after(given[0])
    if number == WOULD:
        return posts.would(given)
    if number == FEWEST:
        return posts.fewest()
    return posts.right(given)


def answer(posts, number, given):
    """What one call answers."""
    if number == BEGIN:
        return posts.begin(given[0])
    if not posts.begun():
        return [NOT_BEGUN]
    if number <= BESTORDER:
        return change(posts, number, given)
    if number <= WHO:
        return look(posts, number, given)
    if number <= RIGHT:
        return weigh(posts, number, given)
    if number == BACK:
        return posts.back()
    return posts.state()


def answers(calls):
    """For each call, in order, how many numbers are answered, then these."""
    posts = Posts()
    found = []
    at = 0
    while at < len(calls):
        end = given_end(calls, at)
        numbers = answer(posts, calls[at], calls[given_start(calls, at):end])
        found.append(len(numbers))
        found.extend(numbers)
        at = end
    return found
