import unittest

from tests.support import GREATEST, SMALL, ask, last, make, put, stands


def level_stands(places, ys):
    """How the nails of a level's line stand."""
    return last(make(places, [0, 1], list(ys) + [0] * len(ys)), stands(0, 0))


def station_stands(heights, ys):
    """How the nails of a station's line stand."""
    return last(make([0, 1], heights, [number for y in ys for number in (0, y)]), stands(1, 1))


class Stands(unittest.TestCase):
    def test_hollow_full_and_straight_by_even_steps(self):
        self.assertEqual(level_stands([0, 1, 2], [5, 4, 5]), [0, 1])
        self.assertEqual(level_stands([0, 1, 2], [5, 6, 5]), [0, 2])
        self.assertEqual(level_stands([0, 1, 2], [5, 6, 7]), [0, 3])
        self.assertEqual(level_stands([0, 1, 2], [7, 6, 5]), [0, 3])

    def test_uneven_steps(self):
        # The chord from (0, 0) to (30, 60) goes through (10, 20) and (20, 40).
        for place, chord in ((10, 20), (20, 40)):
            self.assertEqual(level_stands([0, place, 30], [0, chord - 1, 60]), [0, 1])
            self.assertEqual(level_stands([0, place, 30], [0, chord, 60]), [0, 3])
            self.assertEqual(level_stands([0, place, 30], [0, chord + 1, 60]), [0, 2])

    def test_uneven_steps_of_a_falling_line(self):
        for place, chord in ((10, 40), (20, 20)):
            self.assertEqual(level_stands([0, place, 30], [60, chord - 1, 0]), [0, 1])
            self.assertEqual(level_stands([0, place, 30], [60, chord, 0]), [0, 3])
            self.assertEqual(level_stands([0, place, 30], [60, chord + 1, 0]), [0, 2])

    def test_a_nail_is_held_against_its_neighbours_alone(self):
        self.assertEqual(level_stands([1, 2, 4, 7, 8, 12], [0, 3, 9, 9, 9, 10]), [0, 3, 2, 3, 1])

    def test_heights_below_0(self):
        self.assertEqual(station_stands([-30, -20, 0], [60, 40, 0]), [0, 3])
        self.assertEqual(station_stands([-30, -20, 0], [60, 39, 0]), [0, 1])
        self.assertEqual(station_stands([-30, -20, 0], [60, 41, 0]), [0, 2])
        self.assertEqual(station_stands([-9, -8, 5, 6], [1, 2, 2, 9]), [0, 2, 1])

    def test_the_greatest_measures(self):
        self.assertEqual(level_stands([0, GREATEST - 1, GREATEST], [0, GREATEST - 1, GREATEST]), [0, 3])
        self.assertEqual(level_stands([0, GREATEST - 1, GREATEST], [0, GREATEST - 2, GREATEST]), [0, 1])
        self.assertEqual(level_stands([0, GREATEST - 1, GREATEST], [0, GREATEST, GREATEST]), [0, 2])
        self.assertEqual(station_stands([-GREATEST, 0, GREATEST], [GREATEST, 0, GREATEST]), [0, 1])
        self.assertEqual(station_stands([-GREATEST, 0, GREATEST], [0, GREATEST, 0]), [0, 2])

    def test_a_line_of_two_nails_has_no_inner_nail(self):
        self.assertEqual(ask(SMALL, stands(1, 0), stands(1, 2))[1:], [[0], [0]])

    def test_a_line_of_the_most_nails(self):
        self.assertEqual(level_stands(range(24), [x * x for x in range(24)]), [0] + [1] * 22)
        self.assertEqual(station_stands(range(16), [400 - x * x for x in range(16)]), [0] + [2] * 14)

    def test_both_ways_of_one_table(self):
        call = make([0, 1, 3], [-4, 0, 2], [0, 5, 9, 2, 2, 2, 9, 1, 0])
        self.assertEqual(
            ask(call, *[stands(way, k) for way in (0, 1) for k in range(3)])[1:],
            [[0, 2], [0, 3], [0, 1], [0, 1], [0, 1], [0, 1]],
        )

    def test_it_changes_nothing(self):
        found = ask(SMALL, stands(0, 0), stands(0, 0), put(0, 0, [0, 1, 3]), stands(0, 0), stands(0, 0))
        self.assertEqual(found[1:], [[0, 2], [0, 2], [0], [0, 3], [0, 3]])


if __name__ == "__main__":
    unittest.main()
