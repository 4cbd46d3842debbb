import contextlib
import io
import random
import unittest

from fairlines.loft import answers
from tests.support import GREATEST, HUGE, SMALL, ask, joined, judge, least, line, make, many, none, put, split, stands

MIXED = joined([line(0, 0), SMALL, line(0, 1), put(1, 0, [5, 6]), put(0, 9, []), stands(0, 0), stands(1, 0)])
ANSWERED = [1, -3, 3, 0, 0, 0, 4, 0, 40, 50, 60, 1, 0, 1, -4, 2, 0, 1, 1, 0]

# All eight calls; line 0 of way 0 is 1 2 3 at 0 10 30, so its nail 1 is full.
EIGHT = joined([
    SMALL,
    line(0, 0),
    put(0, 1, [0, 10, 30]),
    stands(0, 0),
    judge(0, 0, [1]),
    judge(0, 0, [2]),
    least(0, 0, [1], [0, 1, 2]),
    many(0, 0, [1], [0, 1, 2]),
    none(0, 0, [1], [0, 1, 2]),
    least(0, 0, [1], [0, 0, 0]),
    many(0, 0, [1], [0, 0, 0]),
    none(0, 0, [1], [0, 0, 0]),
    many(1, 0, [], [0, 16]),
    none(1, 0, [0], [0, 16]),
    line(0, 0),
])
EIGHT_ANSWERED = joined([
    [3, 0, 0, 0],
    [4, 0, 1, 2, 3],
    [1, 0],
    [2, 0, 2],
    [2, 0, 1],
    [2, 0, 0],
    [6, 0, 1, 1, 1, 1, 3],
    [2, 0, 7],
    [2, 0, 0],
    [1, -5],
    [2, 0, 0],
    [2, 0, 3],
    [2, 0, 17],
    [1, -9],
    [4, 0, 1, 2, 3],
])


class Watched(list):
    """A list that may not be changed, not for a while either."""

    def changed(self, *given):
        raise AssertionError("the list that was handed in is changed")

    __setitem__ = __delitem__ = __iadd__ = __imul__ = changed
    append = clear = extend = insert = pop = remove = reverse = sort = changed


class Interface(unittest.TestCase):
    def test_the_count_stands_before_each_answer(self):
        self.assertEqual(answers(MIXED), ANSWERED)

    def test_all_eight_calls_in_one_list(self):
        self.assertEqual(answers(EIGHT), EIGHT_ANSWERED)

    def test_one_call_alone(self):
        self.assertEqual(answers([2, 0, 0]), [1, -3])
        self.assertEqual(answers([1, 0, 0, 0]), [3, 0, 2, 0])

    def test_the_answer_is_a_list_of_whole_numbers(self):
        for calls in (MIXED, EIGHT):
            given = answers(calls)
            self.assertIs(type(given), list)
            self.assertEqual({type(number) for number in given}, {int})

    def test_what_is_handed_in_stays_as_it_was(self):
        for calls, answered in ((MIXED, ANSWERED), (EIGHT, EIGHT_ANSWERED)):
            watched = Watched(calls)
            self.assertEqual(answers(watched), answered)
            self.assertEqual(list(watched), calls)

    def test_nothing_is_kept_from_one_time_to_the_next(self):
        for calls, answered in ((list(MIXED), ANSWERED), (list(EIGHT), EIGHT_ANSWERED)):
            first = answers(calls)
            first.append(1)
            self.assertEqual(answers(calls), answered)
            self.assertEqual(answers(line(0, 0)), [1, -3])
            self.assertEqual(answers(none(0, 0, [1], [0, 1, 2])), [1, -3])

    def test_nothing_is_printed(self):
        printed = io.StringIO()
        with contextlib.redirect_stdout(printed), contextlib.redirect_stderr(printed):
            answers(MIXED)
            answers(EIGHT)
        self.assertEqual(printed.getvalue(), "")

    def test_the_most_calls(self):
        found = ask(SMALL, *[line(0, 1)] * 399)
        self.assertEqual(found[1:], [[0, 40, 50, 60]] * 399)

    def test_the_most_calls_of_all_kinds(self):
        asked = [
            line(0, 0),
            stands(0, 0),
            judge(0, 0, [1]),
            least(0, 0, [1], [16] * 3),
            many(0, 0, [1], [0, 1, 2]),
            none(0, 0, [1], [0] * 3),
            put(0, 0, [1, 2, 3]),
        ]
        told = [[0, 1, 2, 3], [0, 2], [0, 1], [0, 1, 1, 1, 1, 3], [0, 7], [0, 3], [0]]
        found = ask(SMALL, *asked * 57)
        self.assertEqual(len(found), 400)
        self.assertEqual(found[1:], told * 57)

    def test_the_longest_rows_of_shapes_and_moves(self):
        calls = [call(0, 0, [3] * 40, [16] * 40) for call in (least, many, none)] * 50
        calls += [call(1, HUGE, [HUGE] * 40, [-HUGE] * 40) for call in (least, many, none)] * 10
        self.assertEqual(ask(SMALL, *calls)[1:], [[-9]] * 150 + [[-1]] * 30)

    def test_the_longest_lists(self):
        big = make(range(40), range(30), [GREATEST] * 500)
        calls = [SMALL] + [big] * 29 + [put(0, 0, [0] * 40)] * 4 + [line(0, 0)]
        self.assertGreater(len(joined(calls)), 16500)
        self.assertLessEqual(len(joined(calls)), 17000)
        self.assertEqual(ask(*calls), [[0, 0, 0]] + [[0, 2, 0]] * 29 + [[-9]] * 4 + [[0, 1, 2, 3]])


class Grid:
    """A second telling of the words, by (level, station) pairs, to hold the program against."""

    def __init__(self, places, heights, half_breadths):
        self.xs = (places, heights)
        pairs = [(level, station) for level in range(len(heights)) for station in range(len(places))]
        self.breadth = dict(zip(pairs, half_breadths))

    def pairs(self, way, k):
        return sorted(pair for pair in self.breadth if pair[way] == k)

    def line(self, way, k):
        return [self.breadth[pair] for pair in self.pairs(way, k)]

    def put(self, way, k, ys):
        self.breadth.update(zip(self.pairs(way, k), ys))

    def stands(self, way, k):
        nails = list(zip(self.xs[way], self.line(way, k)))
        bends = [
            (c[1] - b[1]) * (b[0] - a[0]) - (b[1] - a[1]) * (c[0] - b[0])
            for a, b, c in zip(nails, nails[1:], nails[2:])
        ]
        return [1 if bend > 0 else 2 if bend < 0 else 3 for bend in bends]


class AgainstTheGrid(unittest.TestCase):
    def test_many_calls_on_tables_of_all_sizes(self):
        source = random.Random(35)
        for stations, levels in ((2, 2), (2, 16), (24, 2), (24, 16), (5, 7), (9, 4)):
            for top in (2, 20, GREATEST):
                calls, told = self.written(source, stations, levels, top)
                self.assertEqual(split(answers(joined(calls))), told)

    def written(self, source, stations, levels, top):
        """Calls on a table of this size, and what the grid tells of them."""
        places = sorted(source.sample(range(60), stations))
        heights = sorted(source.sample(range(-40, 40), levels))
        half_breadths = [source.randint(0, top) for number in range(stations * levels)]
        grid = Grid(places, heights, half_breadths)
        calls, told = [make(places, heights, half_breadths)], [[0, 0, 0]]
        for number in range(200):
            way = source.randrange(2)
            k = source.randrange((levels, stations)[way])
            choice = source.randrange(3)
            if choice == 0:
                ys = [source.randint(0, top) for x in grid.xs[way]]
                grid.put(way, k, ys)
                calls.append(put(way, k, ys))
                told.append([0])
            elif choice == 1:
                calls.append(line(way, k))
                told.append([0] + grid.line(way, k))
            else:
                calls.append(stands(way, k))
                told.append([0] + grid.stands(way, k))
        return calls, told


if __name__ == "__main__":
    unittest.main()
