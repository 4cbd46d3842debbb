import unittest

from tests.support import GREATEST, SMALL, ask, last, least, level, line, many, none, of_level, of_station, put, stands

EVEN = [0, 1, 2]


class Least(unittest.TestCase):
    def test_a_line_that_is_fair_already(self):
        for ys, shape in (([5, 4, 5], [1]), ([5, 6, 5], [2]), ([5, 6, 7], [3]), ([5, 6, 7], [1]), ([5, 9, 2], [0])):
            for moves in ([0, 0, 0], [16, 16, 16], [0, 3, 16]):
                self.assertEqual(of_level(least, EVEN, ys, shape, moves), [0, 0, 0] + ys, (ys, shape, moves))
                self.assertEqual(of_station(least, [-9, -8, -7], ys, shape, moves), [0, 0, 0] + ys, (ys, shape, moves))

    def test_the_greatest_move_goes_ahead_of_the_sum(self):
        # By the middle nail alone the sum is 4, but then the greatest move is 4 too.
        self.assertEqual(of_level(least, EVEN, [10, 14, 10], [1], [16] * 3), [0, 2, 6, 12, 12, 12])
        self.assertEqual(of_station(least, EVEN, [10, 6, 10], [2], [16] * 3), [0, 2, 6, 8, 8, 8])
        self.assertEqual(of_level(least, EVEN, [10, 14, 10], [1], [0, 16, 0]), [0, 4, 4, 10, 10, 10])

    def test_the_sum_goes_ahead_of_the_lesser_y(self):
        # Nail 0 might go down to 8 and the greatest move would still be 2.
        self.assertEqual(of_level(least, range(4), [10, 10, 14, 10], [0, 1], [16] * 4), [0, 2, 6, 10, 12, 12, 12])
        self.assertEqual(of_station(least, range(4), [10, 10, 6, 10], [0, 2], [16] * 4), [0, 2, 6, 10, 8, 8, 8])

    def test_the_lesser_y_at_the_first_nail_at_which_they_differ(self):
        # Nail 0 or nail 2 goes up by 1 and the other by 2; the last nail's lesser y would have it the other way round.
        self.assertEqual(of_level(least, EVEN, [10, 14, 11], [1], [16] * 3), [0, 2, 5, 11, 12, 13])
        # Nail 0 or nail 2 goes down by 1: the lesser y is that of the moved nail.
        self.assertEqual(of_level(least, EVEN, [10, 11, 13], [3], [16] * 3), [0, 1, 1, 9, 11, 13])
        # Nail 0 or nail 2 goes up by 1: the lesser y is that of the nail that stays.
        self.assertEqual(of_level(least, EVEN, [10, 11, 11], [3], [16] * 3), [0, 1, 1, 10, 11, 12])

    def test_the_same_first_ys_and_then_a_lesser_one(self):
        # Nail 0 can't be moved, so nail 1 is the first at which they differ.
        self.assertEqual(of_level(least, range(4), [10, 10, 11, 13], [0, 3], [0, 16, 16, 16]), [0, 1, 1, 10, 9, 11, 13])

    def test_moves_unlike_from_nail_to_nail(self):
        for moves, told in (
            ([0, 16, 0], [0, 16, 16, 10, 10, 10]),
            ([0, 15, 0], [-5]),
            ([1, 15, 1], [0, 15, 17, 11, 11, 11]),
            ([1, 15, 0], [-5]),
            ([16, 0, 16], [0, 16, 32, 26, 26, 26]),
            ([16, 0, 15], [-5]),
            ([16, 16, 16], [0, 8, 24, 18, 18, 18]),
            ([16, 2, 16], [0, 14, 30, 24, 24, 24]),
            ([0, 0, 0], [-5]),
        ):
            self.assertEqual(of_level(least, EVEN, [10, 26, 10], [1], moves), told, moves)
            self.assertEqual(of_station(least, [-1, 4, 9], [10, 26, 10], [1], moves), told, moves)

    def test_nails_moved_by_16(self):
        self.assertEqual(of_level(least, EVEN, [100, 116, 100], [1], [16, 0, 16]), [0, 16, 32, 116, 116, 116])
        self.assertEqual(of_level(least, EVEN, [100, 132, 100], [1], [16, 16, 16]), [0, 16, 48, 116, 116, 116])
        self.assertEqual(of_station(least, EVEN, [132, 100, 132], [2], [16, 16, 16]), [0, 16, 48, 116, 116, 116])
        self.assertEqual(of_level(least, EVEN, [100, 133, 100], [1], [16, 16, 16]), [-5])
        self.assertEqual(
            of_level(least, range(5), [100, 132, 100, 132, 100], [3] * 3, [16] * 5), [0, 16, 80] + [116] * 5
        )

    def test_uneven_steps(self):
        # By the first steps nail 0 tells twice as much as nail 2, by the second half as much.
        self.assertEqual(of_level(least, [0, 1, 3], [10, 13, 10], [1], [16] * 3), [0, 2, 4, 11, 11, 11])
        self.assertEqual(of_level(least, [0, 2, 3], [10, 13, 10], [1], [16] * 3), [0, 2, 4, 10, 11, 12])
        self.assertEqual(of_station(least, [-9, -2, 0], [0, 20, 27], [3], [0, 16, 0]), [0, 1, 1, 0, 21, 27])

    def test_no_y_goes_below_0(self):
        # Nail 0 can't go below 0, though it might be moved by 5.
        self.assertEqual(of_level(least, EVEN, [0, 0, 2], [2], [5, 0, 5]), [0, 2, 2, 0, 0, 0])
        self.assertEqual(of_level(least, EVEN, [0, 0, 2], [2], [5, 0, 1]), [-5])
        self.assertEqual(of_level(least, EVEN, [1, 0, 1], [2], [16, 0, 16]), [0, 1, 2, 0, 0, 0])
        self.assertEqual(of_station(least, EVEN, [0, 1, 3], [3], [16, 0, 0]), [-5])
        self.assertEqual(of_station(least, EVEN, [1, 2, 4], [3], [16, 0, 0]), [0, 1, 1, 0, 2, 4])

    def test_no_y_goes_above_the_greatest(self):
        top = GREATEST
        self.assertEqual(of_level(least, EVEN, [top, top, top - 2], [1], [5, 0, 5]), [0, 2, 2, top, top, top])
        self.assertEqual(of_level(least, EVEN, [top, top, top - 2], [1], [5, 0, 1]), [-5])
        self.assertEqual(of_level(least, EVEN, [top - 1, top, top - 1], [1], [16, 0, 16]), [0, 1, 2, top, top, top])
        self.assertEqual(of_station(least, EVEN, [top, top - 1, top - 3], [3], [16, 0, 0]), [-5])
        self.assertEqual(
            of_station(least, EVEN, [top - 1, top - 2, top - 4], [3], [16, 0, 0]), [0, 1, 1, top, top - 2, top - 4]
        )

    def test_there_is_none(self):
        self.assertEqual(of_level(least, EVEN, [0, 100, 0], [1], [16] * 3), [-5])
        self.assertEqual(of_level(least, EVEN, [100, 0, 100], [2], [16] * 3), [-5])
        # Each inner nail could stand so, but not both.
        self.assertEqual(of_level(least, range(4), [10, 12, 10, 10], [1, 2], [1, 1, 0, 1]), [-5])
        # Only a y that isn't whole would do.
        self.assertEqual(of_level(least, EVEN, [10, 10, 11], [3], [0, 16, 0]), [-5])

    def test_straight_over_a_long_line(self):
        ys = [100 + 3 * x for x in range(24)]
        bent = list(ys)
        bent[9] = bent[9] + 16
        self.assertEqual(of_level(least, range(24), bent, [3] * 22, [16] * 24)[:3], [0, 8, 8 * 24])
        self.assertEqual(of_level(least, range(24), bent, [3] * 22, [0] * 9 + [16] + [0] * 14), [0, 16, 16] + ys)
        self.assertEqual(of_level(least, range(24), bent, [3] * 22, [0] * 9 + [15] + [0] * 14), [-5])

    def test_the_table_stays(self):
        made = level(range(4), [10, 26, 10, 0])
        looked = (line(0, 0), line(0, 1), line(1, 1), stands(0, 0))
        before = ask(made, *looked)[1:]
        for call in (least, many, none):
            for moves in ([16] * 4, [0] * 4):
                asked = call(0, 0, [1, 1], moves)
                found = ask(made, asked, asked, *looked)
                self.assertEqual(found[1], found[2], asked)
                self.assertEqual(found[3:], before, asked)

    def test_it_sees_a_put(self):
        asked = least(0, 0, [1], [16] * 3)
        found = ask(level(EVEN, [10, 14, 10]), asked, put(0, 0, [10, 18, 10]), asked, put(1, 1, [6, 0]), asked)
        self.assertEqual(found[1:], [[0, 2, 6, 12, 12, 12], [0], [0, 4, 12, 14, 14, 14], [0], [0, 0, 0, 10, 6, 10]])

    def test_a_line_of_two_nails(self):
        self.assertEqual(of_level(least, [0, 9], [8, 2], [], [16, 16]), [0, 0, 0, 8, 2])
        self.assertEqual(of_level(least, [0, 9], [0, GREATEST], [], [16, 0]), [0, 0, 0, 0, GREATEST])
        self.assertEqual(last(SMALL, least(1, 2, [], [0, 0])), [0, 0, 0, 3, 60])


if __name__ == "__main__":
    unittest.main()
