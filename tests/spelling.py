"""Spells calls as whole numbers, and takes a list of answers apart call by call."""

from gluedsquares.surface import answers

GREATEST = 4294967295
MOST_CALLS = 40


def row(numbers):
    return [len(numbers)] + list(numbers)


def begin(n):
    return [0, n]


def glue(l, k):
    return [1] + row(l) + row(k)


def go(s, d):
    return [2, s, d]


def walk(s, l):
    return [3, s] + row(l)


def corners():
    return [4]


def corner(s):
    return [5, s]


def holes():
    return [6]


def name():
    return [7]


def same(l, k):
    return [8] + row(l) + row(k)


def selves():
    return [9]


def rename(l):
    return [10] + row(l)


def rows():
    return [11]


def columns():
    return [12]


def near(s, t):
    return [13, s, t]


def state():
    return [14]


def ask(*calls):
    """The answers to these calls on one new object, a list for each."""
    if len(calls) > MOST_CALLS:
        raise AssertionError(f"{len(calls)} calls are more than a list may have")
    given = answers([number for call in calls for number in call])
    parts = []
    place = 0
    while place < len(given):
        end = place + 1 + given[place]
        parts.append(given[place + 1:end])
        place = end
    if place != len(given) or len(parts) != len(calls):
        raise AssertionError(f"these are not answers to {len(calls)} calls: {given}")
    return parts


def ask_last(*calls):
    return ask(*calls)[-1]


def told(size):
    """Calls whose answers tell all of a surface of so many squares: where each step leads."""
    return [go(square, step) for square in range(size) for step in range(4)]


def eastern_and_northern(*calls):
    """The two lists that the surface has after these calls."""
    size = 0
    while ask_last(*calls, go(size, 0)) not in ([-2], [-11]):
        size += 1
    given = ask(*calls, *told(size))[len(calls):]
    steps = [part[0] for part in given]
    return steps[0::4], steps[1::4]
