import unittest

from tests.support import GREATEST, SMALL, ask, last, least, level, many, none, of_level, of_station, put

EVEN = [0, 1, 2]


class Some(unittest.TestCase):
    def test_0_where_there_are_some(self):
        for ys, shape, moves in (
            ([5, 4, 5], [1], [0, 0, 0]),
            ([5, 6, 5], [1], [1, 0, 1]),
            ([5, 6, 5], [1], [0, 1, 0]),
            ([5, 6, 5], [0], [0, 0, 0]),
            ([10, 26, 10], [1], [0, 16, 0]),
            ([5, 6, 5], [3], [16, 16, 16]),
        ):
            self.assertEqual(of_level(none, EVEN, ys, shape, moves), [0, 0], (ys, shape, moves))
            self.assertEqual(of_station(none, EVEN, ys, shape, moves), [0, 0], (ys, shape, moves))

    def test_a_line_of_two_nails(self):
        self.assertEqual(of_level(none, [0, 9], [8, 2], [], [0, 0]), [0, 0])
        self.assertEqual(of_level(none, [0, 9], [0, GREATEST], [], [16, 16]), [0, 0])
        self.assertEqual(last(SMALL, none(1, 0, [], [0, 16])), [0, 0])


class NotOne(unittest.TestCase):
    def test_without_moves_it_is_the_nail_behind_the_first_wrong_one(self):
        ys = [(x - 12) ** 2 for x in range(24)]
        for wrong in range(1, 23):
            shape = [1] * 22
            shape[wrong - 1] = 2
            self.assertEqual(of_level(none, range(24), ys, shape, [0] * 24), [0, wrong + 2], wrong)

    def test_of_several_wrong_nails_the_first(self):
        self.assertEqual(of_level(none, range(6), [9] * 3 + [5, 9, 5], [3, 3, 3, 3], [0] * 6), [0, 4])
        self.assertEqual(of_level(none, range(6), [9, 5, 9, 5, 9, 5], [3, 3, 3, 3], [0] * 6), [0, 3])

    def test_by_three_nails(self):
        self.assertEqual(of_level(none, EVEN, [0, 100, 0], [1], [16] * 3), [0, 3])
        self.assertEqual(of_level(none, range(5), [0, 100, 0, 0, 0], [1, 0, 0], [16] * 5), [0, 3])
        self.assertEqual(of_station(none, range(4), [100, 0, 100, 0], [2, 0], [16] * 4), [0, 3])

    def test_in_the_middle(self):
        self.assertEqual(of_level(none, range(6), [50, 50, 0, 50, 50, 50], [2, 2, 2, 2], [16] * 6), [0, 4])
        self.assertEqual(of_station(none, range(7), [50, 50, 50, 50, 0, 50, 0], [1, 1, 1, 2, 1], [8] * 7), [0, 5])

    def test_each_nail_could_stand_so_but_not_all_of_them(self):
        # A straight line from 9 .. 11 over four nails must be level, and can't then get to 12.
        ys, moves = [10, 10, 10, 10, 13], [1, 1, 1, 1, 1]
        self.assertEqual(of_level(none, range(5), ys, [3, 3, 3], moves), [0, 5])
        self.assertEqual(of_level(none, range(5), ys, [3, 3, 0], moves), [0, 0])
        self.assertEqual(of_level(none, range(5), ys, [3, 0, 3], moves), [0, 0])
        self.assertEqual(of_level(none, range(6), ys + [13], [3, 3, 3, 0], moves + [16]), [0, 5])

    def test_no_y_beyond_0_and_the_greatest(self):
        self.assertEqual(of_level(none, EVEN, [0, 0, 2], [2], [5, 0, 1]), [0, 3])
        self.assertEqual(of_level(none, EVEN, [0, 0, 2], [2], [5, 0, 2]), [0, 0])
        top = GREATEST
        self.assertEqual(of_level(none, EVEN, [top, top, top - 2], [1], [5, 0, 1]), [0, 3])
        self.assertEqual(of_level(none, EVEN, [top, top, top - 2], [1], [5, 0, 2]), [0, 0])

    def test_it_sees_a_put(self):
        asked = none(0, 0, [1, 1], [0, 0, 0, 0])
        found = ask(level(range(4), [5, 5, 5, 4]), asked, put(0, 0, [5, 6, 5, 4]), asked, put(1, 1, [4, 0]), asked)
        self.assertEqual(found[1:], [[0, 4], [0], [0, 3], [0], [0, 4]])

    def test_0_just_where_least_and_many_tell_of_some(self):
        for top in range(0, 80):
            rows = (0, 0, [1, 2, 1], [3, 4, 0, 5, 2])
            found = ask(level([0, 2, 3, 7, 9], [9, top, 20, 31, 40]), least(*rows), many(*rows), none(*rows))
            told = {found[1] != [-5], found[2][1] > 0, found[3] == [0, 0]}
            self.assertEqual(len(told), 1, (top, found))


if __name__ == "__main__":
    unittest.main()
