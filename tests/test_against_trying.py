"""Holds least, many and none against a plain trying of all moved lines."""

import random
import time
import unittest

from tests.support import GREATEST, ask, judge, least, level, line, make, many, none, put
from tests.trying import is_fair, told_by_pairs, told_by_trying

# So that a line has some thousands of moved lines at most.
FARTHEST_OF = {3: 6, 4: 3, 5: 2}


def steps(source, count, start):
    xs = [start]
    while len(xs) < count:
        xs.append(xs[-1] + source.choice((1, 1, 2, 3, 4, 7)))
    return xs


def near_a_curve(source, xs, low, spread):
    """Y's that are somewhat bent and somewhat off, so that fair lines are neither all nor none."""
    bend = source.choice((-1, 0, 0, 1))
    middle = xs[len(xs) // 2]
    curve = [bend * (x - middle) ** 2 // 4 + source.randint(0, spread) for x in xs]
    lift = low - min(curve)
    return [min(GREATEST, y + lift) for y in curve]


def shape_for(source, count):
    if source.random() < 0.3:
        return [source.choice((1, 2, 3))] * count
    return [source.randrange(4) for nail in range(count)]


class Tried(unittest.TestCase):
    def ask_all(self, way, k, shape, moves):
        return [call(way, k, shape, moves) for call in (least, many, none)]

    def test_many_small_lines_both_ways_and_after_puts(self):
        source = random.Random(5)
        seen = {"some": 0, "none": 0}
        for number in range(150):
            stations, levels = source.choice((3, 4, 5)), source.choice((3, 4, 5))
            xs = (steps(source, stations, source.randint(0, 9)), steps(source, levels, source.randint(-20, 5)))
            rows = [near_a_curve(source, xs[0], source.choice((0, 1, 40, GREATEST - 3)), 6) for level in xs[1]]
            calls = [make(xs[0], xs[1], [y for row in rows for y in row])]
            told = [[0, 0, 0]]
            for turn in range(4):
                self.add_put(source, xs, rows, calls, told)
                self.add_asked(source, xs, rows, calls, told)
            self.assertEqual(ask(*calls), told, calls)
            seen["none"] += told.count([-5])
            seen["some"] += 4 - told.count([-5])
        self.assertGreater(min(seen.values()), 100, seen)

    def add_put(self, source, xs, rows, calls, told):
        way = source.randrange(2)
        k = source.randrange(len(xs[1 - way]))
        ys = near_a_curve(source, xs[way], source.choice((0, 2, 40, GREATEST - 4)), 6)
        if way == 0:
            rows[k] = ys
        else:
            for row, y in zip(rows, ys):
                row[k] = y
        calls.append(put(way, k, ys))
        told.append([0])

    def add_asked(self, source, xs, rows, calls, told):
        way = source.randrange(2)
        k = source.randrange(len(xs[1 - way]))
        ys = list(rows[k]) if way == 0 else [row[k] for row in rows]
        shape = shape_for(source, len(ys) - 2)
        moves = [source.randint(0, FARTHEST_OF[len(ys)]) for y in ys]
        calls.extend(self.ask_all(way, k, shape, moves) + [line(way, k)])
        told.extend(told_by_trying(xs[way], ys, shape, moves) + [[0] + ys])

    def test_three_nails_with_the_farthest_moves(self):
        source = random.Random(6)
        for number in range(12):
            xs = steps(source, 3, 0)
            ys = [source.randint(0, 60) for x in xs]
            shape, moves = [source.randint(1, 3)], [source.choice((15, 16)) for x in xs]
            found = ask(level(xs, ys), *self.ask_all(0, 0, shape, moves))
            self.assertEqual(found[1:], told_by_trying(xs, ys, shape, moves), (xs, ys, shape, moves))


class TriedByPairs(unittest.TestCase):
    def test_the_pairs_tell_the_same_as_trying(self):
        source = random.Random(7)
        for number in range(60):
            xs = steps(source, source.choice((3, 4, 5)), 0)
            ys = near_a_curve(source, xs, 3, 5)
            shape, moves = shape_for(source, len(xs) - 2), [source.randint(0, 2) for x in xs]
            self.assertEqual(told_by_pairs(xs, ys, shape, moves), told_by_trying(xs, ys, shape, moves))

    def test_long_lines(self):
        source = random.Random(8)
        some = 0
        for number in range(60):
            xs = steps(source, source.choice((9, 16, 23, 24)), 0)
            ys = near_a_curve(source, xs, source.choice((0, 300, GREATEST - 2)), 4)
            shape = [source.choice((0, 0, 1, 2, 3)) for x in xs[2:]]
            if number % 2 == 0:
                # Else nearly all long shapes would have no fair line.
                shape = [0 if source.random() < 0.4 else source.choice((1, 2)) for x in xs[2:]]
            moves = [source.randint(0, 4) for x in xs]
            calls = [call(0, 0, shape, moves) for call in (least, many, none)]
            told = told_by_pairs(xs, ys, shape, moves)
            self.assertEqual(ask(level(xs, ys), *calls)[1:], told, (xs, ys, shape, moves))
            some += told[0] != [-5]
        self.assertGreater(some, 15)
        self.assertLess(some, 55)


class LongestLines(unittest.TestCase):
    """A line of 24 nails with all moves 16."""

    LINES = (
        ([1000] * 24, [0] * 22),
        ([1000 + 7 * x * x % 31 for x in range(24)], [1] * 22),
        ([1000 + 7 * x * x % 31 for x in range(24)], [2] * 22),
        ([1000 + 7 * x * x % 31 for x in range(24)], [3] * 22),
        ([1000 + 7 * x * x % 31 for x in range(24)], [1, 2, 0, 3, 1, 1, 2, 2, 0, 3, 3] * 2),
        ([5 * (x % 3) for x in range(24)], [2, 1, 2] * 7 + [0]),
        ([GREATEST - 5 * (x % 3) for x in range(24)], [1, 2] * 11),
        ([1000 + 60 * (x % 2) for x in range(24)], [0] * 21 + [3]),
    )

    def test_they_come_to_an_end_within_a_few_seconds(self):
        for ys, shape in self.LINES:
            for call in (least, many, none):
                begun = time.perf_counter()
                ask(level(range(24), ys), call(0, 0, shape, [16] * 24))
                self.assertLess(time.perf_counter() - begun, 4, (call, ys, shape))

    def test_the_nearest_is_fair_and_within_the_moves(self):
        for ys, shape in self.LINES[:7]:
            rows = (shape, [16] * 24)
            told = ask(level(range(24), ys), least(0, 0, *rows), many(0, 0, *rows), none(0, 0, *rows))
            found = told[1][3:]
            self.assertEqual(len(found), 24)
            self.assertTrue(is_fair(range(24), found, shape))
            moved = [abs(new - old) for new, old in zip(found, ys)]
            self.assertEqual(told[1][:3], [0, max(moved), sum(moved)])
            self.assertLessEqual(max(moved), 16)
            self.assertEqual([min(found + [0]), max(found + [GREATEST])], [0, GREATEST])
            self.assertGreater(told[2][1], 0)
            self.assertEqual(told[3], [0, 0])
            self.assertEqual(ask(level(range(24), found), judge(0, 0, shape))[1], [0, 0])

    def test_with_no_nail_moved_as_far_as_the_greatest_move_there_is_none(self):
        for ys, shape in self.LINES[1:7]:
            greatest = ask(level(range(24), ys), least(0, 0, shape, [16] * 24))[1][1]
            self.assertGreater(greatest, 0)
            self.assertEqual(ask(level(range(24), ys), many(0, 0, shape, [greatest - 1] * 24))[1], [0, 0])
            self.assertEqual(ask(level(range(24), ys), least(0, 0, shape, [greatest - 1] * 24))[1], [-5])

    def test_none_by_all_nails_of_the_longest_line(self):
        ys, shape = self.LINES[7]
        self.assertEqual(
            ask(level(range(24), ys), *[call(0, 0, shape, [13] * 24) for call in (least, many, none)])[1:],
            [[-5], [0, 0], [0, 24]],
        )


if __name__ == "__main__":
    unittest.main()
