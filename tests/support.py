"""Writes calls as the interface lays them out, and takes the answers apart again."""

from fairlines.loft import answers

GREATEST = 1048575
HUGE = 10 ** 18


def row(numbers):
    return [len(numbers)] + list(numbers)


def make(places, heights, half_breadths):
    return [1] + row(places) + row(heights) + row(half_breadths)


def line(way, k):
    return [2, way, k]


def put(way, k, ys):
    return [3, way, k] + row(ys)


def stands(way, k):
    return [4, way, k]


def judge(way, k, shape):
    return [5, way, k] + row(shape)


def least(way, k, shape, moves):
    return [6, way, k] + row(shape) + row(moves)


def many(way, k, shape, moves):
    return [7, way, k] + row(shape) + row(moves)


def none(way, k, shape, moves):
    return [8, way, k] + row(shape) + row(moves)


def joined(calls):
    return [number for call in calls for number in call]


def split(given):
    """The answers one by one, by the count before each; fails if the counts don't fill the list."""
    found = []
    at = 0
    while at < len(given):
        count = given[at]
        if count < 1 or at + 1 + count > len(given):
            raise AssertionError(f"a wrong count at {at} of {given}")
        found.append(given[at + 1:at + 1 + count])
        at += 1 + count
    return found


def ask(*calls):
    """The answers to these calls on one new object."""
    found = split(answers(joined(calls)))
    if len(found) != len(calls):
        raise AssertionError(f"{len(found)} answers to {len(calls)} calls")
    return found


def last(*calls):
    return ask(*calls)[-1]


def level(xs, ys):
    """A table whose line 0 of way 0 has these nails."""
    return make(xs, [0, 1], list(ys) + [7] * len(ys))


def station(xs, ys):
    """A table whose line 1 of way 1 has these nails."""
    return make([0, 1], xs, [number for y in ys for number in (7, y)])


def of_level(call, xs, ys, *rows):
    """What the call (judge, least, many, none) answers for these nails."""
    return last(level(xs, ys), call(0, 0, *rows))


def of_station(call, xs, ys, *rows):
    return last(station(xs, ys), call(1, 1, *rows))


# Three stations and two levels, no two half-breadths the same, so that a wrong line shows.
SMALL = make([0, 10, 30], [-5, 7], [1, 2, 3, 40, 50, 60])
