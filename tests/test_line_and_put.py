import unittest

from tests.support import GREATEST, SMALL, ask, last, line, make, put, stands

ALL_LINES = (line(0, 0), line(0, 1), line(1, 0), line(1, 1), line(1, 2))
AS_MADE = [[0, 1, 2, 3], [0, 40, 50, 60], [0, 1, 40], [0, 2, 50], [0, 3, 60]]


class Line(unittest.TestCase):
    def test_both_ways(self):
        self.assertEqual(ask(SMALL, *ALL_LINES)[1:], AS_MADE)

    def test_every_line_of_the_greatest_table(self):
        half_breadths = [level * 1000 + station for level in range(16) for station in range(24)]
        call = make(range(24), range(16), half_breadths)
        for level in range(16):
            self.assertEqual(last(call, line(0, level)), [0] + [level * 1000 + station for station in range(24)])
        for station in range(24):
            self.assertEqual(last(call, line(1, station)), [0] + [level * 1000 + station for level in range(16)])


class Put(unittest.TestCase):
    def test_a_level_is_put(self):
        self.assertEqual(
            ask(SMALL, put(0, 1, [7, 8, 9]), *ALL_LINES)[1:],
            [[0], [0, 1, 2, 3], [0, 7, 8, 9], [0, 1, 7], [0, 2, 8], [0, 3, 9]],
        )

    def test_a_station_is_put(self):
        self.assertEqual(
            ask(SMALL, put(1, 2, [8, 9]), *ALL_LINES)[1:],
            [[0], [0, 1, 2, 8], [0, 40, 50, 9], [0, 1, 40], [0, 2, 50], [0, 8, 9]],
        )

    def test_a_later_put_goes_over_an_earlier_one(self):
        found = ask(SMALL, put(0, 0, [7, 8, 9]), put(1, 1, [5, 6]), put(1, 1, [4, 4]), line(0, 0), line(0, 1))
        self.assertEqual(found[1:], [[0], [0], [0], [0, 7, 4, 9], [0, 40, 4, 60]])

    def test_stands_sees_it(self):
        found = ask(SMALL, stands(0, 1), put(0, 1, [0, 10, 30]), stands(0, 1), put(1, 1, [0, 11]), stands(0, 1))
        self.assertEqual(found[1:], [[0, 2], [0], [0, 3], [0], [0, 2]])

    def test_a_later_make_goes_over_it(self):
        self.assertEqual(ask(SMALL, put(0, 0, [7, 8, 9]), SMALL, *ALL_LINES)[3:], AS_MADE)

    def test_ys_at_their_edges(self):
        found = ask(SMALL, put(0, 0, [0, GREATEST, 0]), line(0, 0), put(1, 0, [GREATEST, 0]), line(1, 0))
        self.assertEqual(found[1:], [[0], [0, 0, GREATEST, 0], [0], [0, GREATEST, 0]])

    def test_ys_just_beyond(self):
        for ys in ([-1, 0, 0], [0, -1, 0], [0, 0, -1], [GREATEST + 1, 0, 0], [0, 0, GREATEST + 1]):
            self.assertEqual(last(SMALL, put(0, 0, ys)), [-1], ys)

    def test_a_refused_put_changes_nothing(self):
        for call, number in (
            (put(2, 0, [9, 9, 9]), -1),
            (put(0, 0, [9, 9, -1]), -1),
            (put(1, 0, [9, GREATEST + 1]), -1),
            (put(0, 2, [9, 9, 9]), -4),
            (put(0, -1, [9, 9, 9]), -4),
            (put(1, 3, [9, 9]), -4),
            (put(0, 0, [9, 9]), -9),
            (put(0, 0, [9, 9, 9, 9]), -9),
            (put(1, 0, [9, 9, 9]), -9),
            (put(1, 0, []), -9),
        ):
            found = ask(SMALL, call, *ALL_LINES)
            self.assertEqual(found[1], [number], call)
            self.assertEqual(found[2:], AS_MADE, call)


if __name__ == "__main__":
    unittest.main()
