import unittest

from tests.support import GREATEST, HUGE, SMALL, ask, last, line, make, put, stands

WIDE = [0] * 3
TALL = [0] * 2


def of_each_call(way, k, ys):
    return (line(way, k), put(way, k, ys), stands(way, k))


class NoTable(unittest.TestCase):
    def test_before_a_table_is_there(self):
        self.assertEqual(ask(*of_each_call(0, 0, WIDE)), [[-3]] * 3)

    def test_before_all_other_refusals(self):
        for call in of_each_call(7, HUGE, [-1]) + of_each_call(0, HUGE, []) + of_each_call(0, 0, []):
            self.assertEqual(last(call), [-3], call)

    def test_not_once_a_table_is_there(self):
        self.assertEqual(ask(line(0, 0), SMALL, line(0, 0)), [[-3], [0, 0, 0], [0, 1, 2, 3]])

    def test_make_is_not_refused(self):
        self.assertEqual(last(make([], [], [])), [0, 2, 0])


class WrongNumber(unittest.TestCase):
    def test_way_is_not_0_or_1(self):
        for way in (-1, 2, 3, HUGE, -HUGE):
            for call in of_each_call(way, 0, WIDE) + of_each_call(way, 0, TALL):
                self.assertEqual(last(SMALL, call), [-1], call)

    def test_a_y_that_may_not_be(self):
        for y in (-1, GREATEST + 1, HUGE, -HUGE):
            self.assertEqual(last(SMALL, put(0, 0, [0, y, 0])), [-1], y)
            self.assertEqual(last(SMALL, put(1, 0, [0, y])), [-1], y)

    def test_before_no_such_line(self):
        for call in of_each_call(2, 99, WIDE) + (put(0, 99, [0, 0, -1]), put(1, -1, [0, GREATEST + 1])):
            self.assertEqual(last(SMALL, call), [-1], call)

    def test_before_a_wrong_length(self):
        for call in (put(2, 0, []), put(0, 0, [-1]), put(0, 0, [0, 0, 0, -1]), put(1, 0, [GREATEST + 1])):
            self.assertEqual(last(SMALL, call), [-1], call)

    def test_before_both(self):
        for call in (put(2, 99, []), put(0, 99, [-1]), put(0, 0, [0] * 39 + [HUGE])):
            self.assertEqual(last(SMALL, call), [-1], call)


class NoLine(unittest.TestCase):
    def test_no_such_line(self):
        for k in (-1, 2, HUGE, -HUGE):
            for call in of_each_call(0, k, WIDE):
                self.assertEqual(last(SMALL, call), [-4], call)
        for k in (-1, 3, HUGE, -HUGE):
            for call in of_each_call(1, k, TALL):
                self.assertEqual(last(SMALL, call), [-4], call)

    def test_the_last_line_of_each_way_is_there(self):
        for call in of_each_call(0, 1, WIDE) + of_each_call(1, 2, TALL):
            self.assertEqual(last(SMALL, call)[0], 0, call)

    def test_before_a_wrong_length(self):
        for call in (put(0, 2, []), put(0, -1, [0] * 40), put(1, 3, WIDE)):
            self.assertEqual(last(SMALL, call), [-4], call)


class WrongLength(unittest.TestCase):
    def test_not_as_many_ys_as_nails(self):
        for call in (
            put(0, 0, []),
            put(0, 0, TALL),
            put(0, 0, [0] * 4),
            put(0, 0, [0] * 40),
            put(1, 0, []),
            put(1, 0, [0]),
            put(1, 0, WIDE),
        ):
            self.assertEqual(last(SMALL, call), [-9], call)


if __name__ == "__main__":
    unittest.main()
