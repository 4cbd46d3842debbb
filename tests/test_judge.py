import unittest

from tests.support import GREATEST, SMALL, ask, judge, last, level, make, of_level, of_station, put

# Nails 1 to 5: hollow, straight, full, straight, hollow.
WAVY = [4, 2, 2, 2, 1, 0, 3]
WAVY_STANDS = [1, 3, 2, 3, 1]


class Judge(unittest.TestCase):
    def test_a_fair_line(self):
        for shape in (WAVY_STANDS, [1, 1, 2, 1, 1], [1, 2, 2, 2, 1], [0, 0, 0, 0, 0], [1, 0, 2, 3, 0]):
            self.assertEqual(of_level(judge, range(7), WAVY, shape), [0, 0], shape)
            self.assertEqual(of_station(judge, range(-3, 4), WAVY, shape), [0, 0], shape)

    def test_the_first_nail_that_does_not_stand_so(self):
        for shape, nail in (
            ([2, 3, 2, 3, 1], 1),
            ([3, 3, 2, 3, 1], 1),
            ([1, 3, 1, 3, 1], 3),
            ([1, 3, 3, 3, 1], 3),
            ([1, 3, 2, 3, 2], 5),
            ([0, 0, 0, 0, 3], 5),
        ):
            self.assertEqual(of_level(judge, range(7), WAVY, shape), [0, nail], shape)
            self.assertEqual(of_station(judge, range(-3, 4), WAVY, shape), [0, nail], shape)

    def test_of_several_the_first_is_told(self):
        self.assertEqual(of_level(judge, range(7), WAVY, [2, 3, 1, 3, 2]), [0, 1])
        self.assertEqual(of_level(judge, range(7), WAVY, [1, 3, 1, 3, 2]), [0, 3])

    def test_each_number_against_each_stand(self):
        hollow, full, straight = [5, 4, 5], [5, 6, 5], [5, 6, 7]
        for wish, ys, told in (
            (0, hollow, 0),
            (0, full, 0),
            (0, straight, 0),
            (1, hollow, 0),
            (1, full, 1),
            (1, straight, 0),
            (2, hollow, 1),
            (2, full, 0),
            (2, straight, 0),
            (3, hollow, 1),
            (3, full, 1),
            (3, straight, 0),
        ):
            self.assertEqual(of_level(judge, [0, 1, 2], ys, [wish]), [0, told], (wish, ys))
            self.assertEqual(of_station(judge, [-7, -6, -5], ys, [wish]), [0, told], (wish, ys))

    def test_uneven_steps(self):
        for y, fair in ((19, [1]), (20, [1, 2, 3]), (21, [2])):
            for wish in (1, 2, 3):
                told = 0 if wish in fair else 1
                self.assertEqual(of_level(judge, [0, 10, 30], [0, y, 60], [wish]), [0, told], (y, wish))

    def test_the_greatest_measures(self):
        xs = [0, GREATEST - 1, GREATEST]
        self.assertEqual(of_level(judge, xs, [0, GREATEST - 1, GREATEST], [3]), [0, 0])
        self.assertEqual(of_level(judge, xs, [0, GREATEST - 2, GREATEST], [2]), [0, 1])
        self.assertEqual(of_level(judge, xs, [0, GREATEST, GREATEST], [1]), [0, 1])

    def test_a_line_of_two_nails(self):
        self.assertEqual(of_level(judge, [3, 9], [8, 2], []), [0, 0])
        self.assertEqual(last(SMALL, judge(1, 2, [])), [0, 0])

    def test_a_line_of_the_most_nails(self):
        ys = [x * x for x in range(24)]
        self.assertEqual(of_level(judge, range(24), ys, [1] * 22), [0, 0])
        self.assertEqual(of_level(judge, range(24), ys, [1] * 21 + [2]), [0, 22])
        self.assertEqual(of_station(judge, range(16), ys[:16], [1] * 13 + [3]), [0, 14])

    def test_the_line_that_is_asked_for(self):
        call = make([0, 1, 3], [-4, 0, 2], [0, 5, 9, 2, 2, 2, 9, 1, 0])
        asked = [judge(way, k, [2]) for way in (0, 1) for k in range(3)]
        self.assertEqual(ask(call, *asked)[1:], [[0, 0], [0, 0], [0, 1], [0, 1], [0, 1], [0, 1]])

    def test_it_sees_a_put_and_changes_nothing(self):
        asked = judge(0, 0, [1, 2])
        made = level(range(4), [3, 1, 2, 4])
        found = ask(made, asked, asked, put(0, 0, [3, 1, 2, 2]), asked, put(1, 1, [3, 3]), asked)
        self.assertEqual(found[1:], [[0, 2], [0, 2], [0], [0, 0], [0], [0, 1]])


if __name__ == "__main__":
    unittest.main()
