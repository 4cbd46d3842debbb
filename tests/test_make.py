import unittest

from tests.support import GREATEST, HUGE, SMALL, ask, last, line, make, stands


def sized(stations, levels):
    return make(range(stations), range(levels), range(stations * levels))


class Taken(unittest.TestCase):
    def test_a_table_is_taken(self):
        self.assertEqual(last(SMALL), [0, 0, 0])

    def test_half_breadths_lie_level_by_level(self):
        self.assertEqual(
            ask(SMALL, line(0, 0), line(0, 1), line(1, 0), line(1, 1), line(1, 2))[1:],
            [[0, 1, 2, 3], [0, 40, 50, 60], [0, 1, 40], [0, 2, 50], [0, 3, 60]],
        )

    def test_fewest_and_most_stations_and_levels(self):
        for stations in (2, 3, 23, 24):
            for levels in (2, 3, 15, 16):
                self.assertEqual(last(sized(stations, levels)), [0, 0, 0], (stations, levels))

    def test_measures_at_their_edges(self):
        call = make([0, GREATEST], [-GREATEST, GREATEST], [0, GREATEST, GREATEST, 0])
        self.assertEqual(
            ask(call, line(0, 0), line(0, 1)), [[0, 0, 0], [0, 0, GREATEST], [0, GREATEST, 0]]
        )

    def test_places_need_not_begin_at_0_and_may_rise_by_1(self):
        self.assertEqual(last(make([5, 6, 7], [-1, 0], [0] * 6)), [0, 0, 0])

    def test_heights_may_all_be_below_0(self):
        self.assertEqual(last(make([0, 1], [-9, -8, -1], [0] * 6)), [0, 0, 0])

    def test_half_breadths_need_not_rise(self):
        self.assertEqual(last(make([0, 1], [0, 1], [7, 7, 3, 3])), [0, 0, 0])

    def test_a_second_make_takes_the_first_ones_place(self):
        found = ask(SMALL, make([2, 3], [4, 5, 6], [9, 8, 7, 6, 5, 4]), line(0, 2), line(1, 1), line(1, 2))
        self.assertEqual(found[1:], [[0, 0, 0], [0, 5, 4], [0, 8, 6, 4], [-4]])


class NotTaken(unittest.TestCase):
    def test_stations_not_2_to_24(self):
        for stations in (0, 1, 25, 40):
            self.assertEqual(last(sized(stations, 2)), [0, 2, 0], stations)

    def test_levels_not_2_to_16(self):
        for levels in (0, 1, 17, 30):
            self.assertEqual(last(sized(2, levels)), [0, 2, 1], levels)

    def test_half_breadths_not_as_many(self):
        for count in (0, 1, 5, 7, 500):
            self.assertEqual(last(make([0, 1, 2], [0, 1], [0] * count)), [0, 1, count], count)

    def test_a_place_that_is_no_measure_from_0_on(self):
        for places, number in (
            ([-1, 1, 2], 0),
            ([-HUGE, 1, 2], 0),
            ([GREATEST + 1, GREATEST + 2, GREATEST + 3], 0),
            ([0, GREATEST, GREATEST + 1], 2),
            ([0, HUGE, 5], 1),
        ):
            self.assertEqual(last(make(places, [0, 1], [0] * 6)), [0, 3, number], places)

    def test_a_place_not_above_the_one_before(self):
        for places, number in (([0, 0, 1], 1), ([0, 5, 5], 2), ([4, 3, 2], 1), ([0, 9, 8], 2), ([0, 2, -1], 2)):
            self.assertEqual(last(make(places, [0, 1], [0] * 6)), [0, 3, number], places)

    def test_a_height_that_is_no_measure(self):
        for heights, number in (
            ([-GREATEST - 1, 0, 1], 0),
            ([-HUGE, 0, 1], 0),
            ([HUGE, 0, 1], 0),
            ([0, GREATEST, GREATEST + 1], 2),
        ):
            self.assertEqual(last(make([0, 1], heights, [0] * 6)), [0, 4, number], heights)

    def test_a_height_not_above_the_one_before(self):
        for heights, number in (([-3, -3, 1], 1), ([0, 5, 5], 2), ([-1, -2, 3], 1), ([-4, 2, 1], 2)):
            self.assertEqual(last(make([0, 1], heights, [0] * 6)), [0, 4, number], heights)

    def test_a_half_breadth_that_is_no_measure_from_0_on(self):
        for half_breadths, number in (
            ([-1, 0, 0, 0], 0),
            ([0, GREATEST + 1, 0, 0], 1),
            ([0, 0, -HUGE, HUGE], 2),
            ([0, 0, GREATEST, HUGE], 3),
        ):
            self.assertEqual(last(make([0, 1], [0, 1], half_breadths)), [0, 5, number], half_breadths)

    def test_the_first_of_several_faults_is_told(self):
        bad_places = [5, 5]
        bad_heights = [5, 5]
        bad_breadths = [-1, 0, 0, 0]
        for call, told in (
            (make([9], [9], [-1, -1]), [2, 0]),
            (make([-1] * 25, [0, 1], [-1]), [2, 0]),
            (make(bad_places, [9], [-1]), [2, 1]),
            (make(bad_places, bad_heights, [-1]), [1, 1]),
            (make([0, 1], bad_heights, []), [1, 0]),
            (make(bad_places, bad_heights, bad_breadths), [3, 1]),
            (make(bad_places, [0, 1], bad_breadths), [3, 1]),
            (make([0, 1], bad_heights, bad_breadths), [4, 1]),
            (make([0, 1], [0, 1], bad_breadths), [5, 0]),
        ):
            self.assertEqual(last(call), [0] + told, call)

    def test_of_several_faults_of_one_kind_the_first_is_told(self):
        self.assertEqual(last(make([0, 0, 0], [0, 1], [0] * 6)), [0, 3, 1])
        self.assertEqual(last(make([0, 1], [0, 0, -HUGE], [0] * 6)), [0, 4, 1])
        self.assertEqual(last(make([0, 1], [0, 1], [0, -1, -1, -1])), [0, 5, 1])

    def test_the_table_that_was_there_stays(self):
        for call in (
            make([0], [0, 1], [0, 0]),
            make([0, 1], [0], [0, 0]),
            make([0, 1], [0, 1], [0]),
            make([1, 1], [0, 1], [9] * 4),
            make([0, 1], [1, 1], [9] * 4),
            make([0, 1], [0, 1], [9, 9, 9, -9]),
        ):
            found = ask(SMALL, call, line(0, 0), line(0, 1), line(1, 2), stands(0, 0))
            self.assertNotEqual(found[1], [0, 0, 0], call)
            self.assertEqual(found[2:], [[0, 1, 2, 3], [0, 40, 50, 60], [0, 3, 60], [0, 2]], call)

    def test_without_a_table_there_is_none_after_it_either(self):
        self.assertEqual(ask(make([0, 0], [0, 1], [0] * 4), line(0, 0)), [[0, 3, 1], [-3]])


if __name__ == "__main__":
    unittest.main()
