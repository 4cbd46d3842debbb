"""A second telling of fair lines, to hold the program against: all moved lines are tried, or all pairs of y's."""

import itertools

from tests.support import GREATEST


def choices(y, move):
    return [z for z in range(y - move, y + move + 1) if 0 <= z <= GREATEST]


def stands_so(wish, a, b, c):
    """Whether the nail b between a and c, each (x, y), stands as the shape's number wishes."""
    bend = (c[1] - b[1]) * (b[0] - a[0]) - (b[1] - a[1]) * (c[0] - b[0])
    return (wish == 0) or (wish == 1 and bend >= 0) or (wish == 2 and bend <= 0) or (wish == 3 and bend == 0)


def is_fair(xs, ys, shape):
    nails = list(zip(xs, ys))
    return all(stands_so(wish, *three) for wish, *three in zip(shape, nails, nails[1:], nails[2:]))


def fair_beginnings(xs, ys, shape, moves, count):
    """Those beginnings of moved lines, of so many nails, that are fair."""
    tried = itertools.product(*[choices(y, move) for y, move in zip(ys[:count], moves)])
    return [line for line in tried if is_fair(xs[:count], line, shape[:max(0, count - 2)])]


def nearness(ys, line):
    moved = [abs(new - old) for new, old in zip(line, ys)]
    return [max(moved), sum(moved)] + list(line)


def told_by_trying(xs, ys, shape, moves):
    """What least, many and none are to answer."""
    fair = fair_beginnings(xs, ys, shape, moves, len(xs))
    if fair:
        return [[0] + min(nearness(ys, line) for line in fair), [0, len(fair)], [0, 0]]
    counts = range(2, len(xs) + 1)
    return [[-5], [0, 0], [0, min(m for m in counts if not fair_beginnings(xs, ys, shape, moves, m))]]


def told_by_pairs(xs, ys, shape, moves):
    """The same for long lines: the beginnings that end in one pair of y's are kept together, three nails at a time."""
    for limit in range(17):
        kept = best_by_pairs(xs, ys, shape, [min(move, limit) for move in moves])
        if kept:
            break
    best = [-5]
    if kept:
        best = [0] + min(nearness(ys, line) for total, line in kept.values())
    counts = {pair: 1 for pair in itertools.product(choices(ys[0], moves[0]), choices(ys[1], moves[1]))}
    for nail in range(1, len(xs) - 1):
        counts = counts_by_pairs(xs, ys, shape, moves, nail, counts)
        if not counts:
            return [best, [0, 0], [0, nail + 2]]
    return [best, [0, sum(counts.values())], [0, 0]]


def goes_on(xs, ys, shape, moves, nail, pair):
    """The y's of the nail behind by which the nail stands so, the pair being the y's of the nail before and its own."""
    a, b = (xs[nail - 1], pair[0]), (xs[nail], pair[1])
    behind = choices(ys[nail + 1], moves[nail + 1])
    return [y for y in behind if stands_so(shape[nail - 1], a, b, (xs[nail + 1], y))]


def counts_by_pairs(xs, ys, shape, moves, nail, counts):
    found = {}
    for pair, count in counts.items():
        for y in goes_on(xs, ys, shape, moves, nail, pair):
            found[pair[1], y] = found.get((pair[1], y), 0) + count
    return found


def best_by_pairs(xs, ys, shape, moves):
    """For each last pair the beginning with the least sum of moves, and of these the first in the y's order."""
    starts = itertools.product(choices(ys[0], moves[0]), choices(ys[1], moves[1]))
    kept = {pair: (abs(pair[0] - ys[0]) + abs(pair[1] - ys[1]), pair) for pair in starts}
    for nail in range(1, len(xs) - 1):
        found = {}
        for pair, (total, line) in kept.items():
            for y in goes_on(xs, ys, shape, moves, nail, pair):
                longer = (total + abs(y - ys[nail + 1]), line + (y,))
                found[pair[1], y] = min(longer, found.get((pair[1], y), longer))
        kept = found
    return kept
