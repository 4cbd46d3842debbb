import unittest

from tests.support import GREATEST, SMALL, ask, last, level, many, of_level, of_station, put

EVEN = [0, 1, 2]
HOLLOW, FULL, STRAIGHT = [5, 4, 5], [5, 6, 5], [5, 6, 7]


class Many(unittest.TestCase):
    def test_all_moves_0(self):
        for ys, fair in ((HOLLOW, (0, 1)), (FULL, (0, 2)), (STRAIGHT, (0, 1, 2, 3))):
            for wish in range(4):
                told = 1 if wish in fair else 0
                self.assertEqual(of_level(many, EVEN, ys, [wish], [0, 0, 0]), [0, told], (ys, wish))
                self.assertEqual(of_station(many, EVEN, ys, [wish], [0, 0, 0]), [0, told], (ys, wish))

    def test_counted_one_by_one_by_even_steps(self):
        for wish, told in ((0, 27), (1, 16), (2, 16), (3, 5)):
            self.assertEqual(of_level(many, EVEN, [9, 9, 9], [wish], [1, 1, 1]), [0, told], wish)
            self.assertEqual(of_level(many, EVEN, [9, 19, 29], [wish], [1, 1, 1]), [0, told], wish)

    def test_counted_one_by_one_by_uneven_steps(self):
        for wish, told in ((0, 27), (1, 15), (2, 15), (3, 3)):
            self.assertEqual(of_level(many, [0, 1, 3], [9, 9, 9], [wish], [1, 1, 1]), [0, told], wish)
            self.assertEqual(of_station(many, [-3, -1, 0], [9, 9, 9], [wish], [1, 1, 1]), [0, told], wish)

    def test_counted_one_by_one_by_unlike_moves(self):
        # Straight: the first y and the last come to twice the middle one.
        self.assertEqual(of_level(many, EVEN, [9, 9, 9], [3], [0, 1, 2]), [0, 3])
        self.assertEqual(of_level(many, EVEN, [90, 90, 90], [3], [16, 0, 16]), [0, 33])
        self.assertEqual(of_level(many, EVEN, [9, 9, 9], [3], [16, 0, 16]), [0, 19])
        self.assertEqual(of_level(many, EVEN, [20, 9, 20], [3], [16, 0, 16]), [0, 11])
        self.assertEqual(of_level(many, EVEN, [9, 9, 9], [3], [1, 0, 16]), [0, 3])
        # Hollow, the first two nails staying: the last one from 9 to 25.
        self.assertEqual(of_level(many, EVEN, [9, 9, 9], [1], [0, 0, 16]), [0, 17])

    def test_four_nails_counted_one_by_one(self):
        # The middle nails stay at 9: nail 0 and nail 3 each as far as they like to one side.
        for shape, told in (([1, 1], 9), ([1, 2], 9), ([1, 0], 15), ([3, 1], 3), ([3, 3], 1), ([0, 0], 25)):
            self.assertEqual(of_level(many, range(4), [9] * 4, shape, [2, 0, 0, 2]), [0, told], shape)

    def test_straight_over_a_long_line(self):
        # 33 level ones, and 10 each that rise or fall by 1 at each step.
        self.assertEqual(of_level(many, range(24), [50] * 24, [3] * 22, [16] * 24), [0, 53])

    def test_no_y_below_0(self):
        self.assertEqual(of_level(many, EVEN, [0, 0, 0], [0], [16, 16, 16]), [0, 17 ** 3])
        self.assertEqual(of_level(many, EVEN, [0, 1, 2], [0], [1, 2, 3]), [0, 2 * 4 * 6])
        # From 0 to 1 each: hollow are all but 0 1 0, 0 1 1 and 1 1 0.
        self.assertEqual(of_level(many, EVEN, [0, 0, 0], [1], [1, 1, 1]), [0, 5])
        self.assertEqual(of_level(many, EVEN, [0, 0, 0], [2], [1, 1, 1]), [0, 5])
        self.assertEqual(of_station(many, EVEN, [0, 0, 0], [3], [1, 1, 1]), [0, 2])

    def test_no_y_above_the_greatest(self):
        top = GREATEST
        self.assertEqual(of_level(many, EVEN, [top] * 3, [0], [16, 16, 16]), [0, 17 ** 3])
        self.assertEqual(of_level(many, EVEN, [top, top - 1, top - 2], [0], [1, 2, 3]), [0, 2 * 4 * 6])
        self.assertEqual(of_level(many, EVEN, [top] * 3, [1], [1, 1, 1]), [0, 5])
        self.assertEqual(of_level(many, EVEN, [top] * 3, [2], [1, 1, 1]), [0, 5])
        self.assertEqual(of_station(many, EVEN, [top] * 3, [3], [1, 1, 1]), [0, 2])

    def test_the_greatest_steps(self):
        xs = [0, GREATEST - 1, GREATEST]
        self.assertEqual(of_level(many, xs, [20, 20, 20], [3], [16, 16, 16]), [0, 33])
        self.assertEqual(of_station(many, [-GREATEST, 0, GREATEST], [20, 20, 20], [3], [1, 1, 1]), [0, 5])

    def test_a_number_far_above_64_bits_is_told_exactly(self):
        told = of_level(many, range(24), [100] * 24, [0] * 22, [16] * 24)
        self.assertGreater(told[1], 18446744073709551615)
        self.assertEqual(told, [0, 33 ** 24])
        self.assertEqual(of_level(many, range(24), [0] * 24, [0] * 22, [16] * 24), [0, 17 ** 24])
        # Where the last inner nail alone isn't free, the 21 nails ahead of the last three are 33 to the 21st.
        whole = of_level(many, EVEN, [100] * 3, [0], [16] * 3)[1]
        hollow = of_level(many, EVEN, [100] * 3, [1], [16] * 3)[1]
        straight = of_level(many, EVEN, [100] * 3, [3], [16] * 3)[1]
        self.assertEqual(2 * hollow - straight, whole)
        self.assertEqual(of_level(many, range(24), [100] * 24, [0] * 21 + [1], [16] * 24), [0, 33 ** 21 * hollow])

    def test_none(self):
        self.assertEqual(of_level(many, EVEN, [0, 100, 0], [1], [16] * 3), [0, 0])
        self.assertEqual(of_level(many, EVEN, [10, 10, 11], [3], [0, 16, 0]), [0, 0])

    def test_it_sees_a_put(self):
        asked = many(0, 0, [1], [1, 0, 0])
        found = ask(level(EVEN, [5, 5, 5]), asked, put(0, 0, [5, 6, 5]), asked, put(1, 1, [4, 0]), asked)
        self.assertEqual(found[1:], [[0, 2], [0], [0, 0], [0], [0, 3]])

    def test_a_line_of_two_nails(self):
        self.assertEqual(of_level(many, [0, 9], [40, 40], [], [16, 16]), [0, 33 * 33])
        self.assertEqual(of_level(many, [0, 9], [0, GREATEST - 2], [], [3, 16]), [0, 4 * 19])
        self.assertEqual(last(SMALL, many(1, 0, [], [0, 0])), [0, 1])


if __name__ == "__main__":
    unittest.main()
