import unittest

from tests.support import GREATEST, HUGE, SMALL, ask, judge, last, least, line, make, many, none, put, stands

WIDE = [0] * 3
TALL = [0] * 2
MOVED = (least, many, none)


def of_moved(way, k, shape, moves):
    """The calls that have a shape and moves."""
    return tuple(call(way, k, shape, moves) for call in MOVED)


def of_shape(way, k, shape, moves):
    """The calls that have a shape."""
    return (judge(way, k, shape),) + of_moved(way, k, shape, moves)


def of_each_call(way, k, ys):
    """All calls but make, with rows that are as long as they're to be if ys is."""
    shape = ys[2:]
    return (line(way, k), put(way, k, ys), stands(way, k)) + of_shape(way, k, shape, ys)


class NoTable(unittest.TestCase):
    def test_before_a_table_is_there(self):
        self.assertEqual(ask(*of_each_call(0, 0, WIDE)), [[-3]] * 7)

    def test_before_all_other_refusals(self):
        for call in of_each_call(7, HUGE, [-1]) + of_each_call(0, HUGE, []) + of_each_call(0, 0, []):
            self.assertEqual(last(call), [-3], call)

    def test_before_all_other_refusals_of_a_shape_and_moves(self):
        for way, k, shape, moves in ((7, HUGE, [4], [17]), (0, 0, [4], WIDE), (0, 0, [0], [-1]), (0, 9, [0], WIDE)):
            for call in of_shape(way, k, shape, moves) + of_shape(way, k, [], []):
                self.assertEqual(last(call), [-3], call)

    def test_a_make_that_is_not_taken_leaves_it_so(self):
        for call in of_each_call(0, 0, WIDE):
            self.assertEqual(ask(make([0, 0], [0, 1], [0] * 4), call), [[0, 3, 1], [-3]], call)

    def test_not_once_a_table_is_there(self):
        self.assertEqual(ask(line(0, 0), SMALL, line(0, 0)), [[-3], [0, 0, 0], [0, 1, 2, 3]])

    def test_make_is_not_refused(self):
        self.assertEqual(last(make([], [], [])), [0, 2, 0])


class WrongNumber(unittest.TestCase):
    def test_way_is_not_0_or_1(self):
        for way in (-1, 2, 3, HUGE, -HUGE):
            for call in of_each_call(way, 0, WIDE) + of_each_call(way, 0, TALL):
                self.assertEqual(last(SMALL, call), [-1], call)

    def test_a_y_that_may_not_be(self):
        for y in (-1, GREATEST + 1, HUGE, -HUGE):
            self.assertEqual(last(SMALL, put(0, 0, [0, y, 0])), [-1], y)
            self.assertEqual(last(SMALL, put(1, 0, [0, y])), [-1], y)

    def test_a_number_of_the_shape_that_may_not_be(self):
        for wish in (-1, 4, 5, HUGE, -HUGE):
            for call in of_shape(0, 0, [wish], WIDE):
                self.assertEqual(last(SMALL, call), [-1], call)

    def test_a_number_of_the_shape_that_may_be(self):
        for wish in (0, 1, 2, 3):
            for call in of_shape(0, 0, [wish], [16] * 3):
                self.assertEqual(last(SMALL, call)[0], 0, call)

    def test_a_move_that_may_not_be(self):
        for move in (-1, 17, 18, HUGE, -HUGE):
            for moves in ([move, 0, 0], [0, move, 0], [0, 0, move]):
                for call in of_moved(0, 0, [0], moves):
                    self.assertEqual(last(SMALL, call), [-1], call)
            for call in of_moved(1, 0, [], [0, move]):
                self.assertEqual(last(SMALL, call), [-1], call)

    def test_a_move_that_may_be(self):
        for move in (0, 1, 15, 16):
            for call in of_moved(0, 0, [0], [0, move, 16]):
                self.assertEqual(last(SMALL, call)[0], 0, call)

    def test_the_last_number_of_a_long_row(self):
        four = make([0, 1, 2, 3], [0, 1], [0] * 8)
        for call in of_shape(0, 0, [0, 4], [0] * 4) + of_moved(0, 0, [0, 0], [0, 0, 0, 17]):
            self.assertEqual(last(four, call), [-1], call)

    def test_of_a_shape_and_moves_before_no_such_line(self):
        for k in (-1, 2, HUGE, -HUGE):
            for call in of_shape(2, k, [0], WIDE) + of_shape(0, k, [4], WIDE) + of_moved(0, k, [0], [0, 0, 17]):
                self.assertEqual(last(SMALL, call), [-1], call)

    def test_of_a_shape_and_moves_before_a_wrong_length(self):
        for call in (
            of_shape(2, 0, [], [])
            + of_shape(0, 0, [0, 4], WIDE)
            + of_shape(0, 0, [0] * 39 + [-1], WIDE)
            + of_shape(1, 0, [4], TALL)
            + of_moved(0, 0, [4], [])
            + of_moved(0, 0, [0], [17])
            + of_moved(0, 0, [], [-1, 0, 0])
            + of_moved(0, 0, [0], [0] * 39 + [17])
            + of_moved(1, 0, [], [0, 0, -1])
        ):
            self.assertEqual(last(SMALL, call), [-1], call)

    def test_of_a_shape_and_moves_before_both(self):
        for call in of_shape(2, 9, [], []) + of_shape(0, 9, [4, 4], []) + of_moved(1, -1, [0], [17]):
            self.assertEqual(last(SMALL, call), [-1], call)

    def test_before_no_such_line(self):
        for call in of_each_call(2, 99, WIDE) + (put(0, 99, [0, 0, -1]), put(1, -1, [0, GREATEST + 1])):
            self.assertEqual(last(SMALL, call), [-1], call)

    def test_before_a_wrong_length(self):
        for call in (put(2, 0, []), put(0, 0, [-1]), put(0, 0, [0, 0, 0, -1]), put(1, 0, [GREATEST + 1])):
            self.assertEqual(last(SMALL, call), [-1], call)

    def test_before_both(self):
        for call in (put(2, 99, []), put(0, 99, [-1]), put(0, 0, [0] * 39 + [HUGE])):
            self.assertEqual(last(SMALL, call), [-1], call)


class NoLine(unittest.TestCase):
    def test_no_such_line(self):
        for k in (-1, 2, HUGE, -HUGE):
            for call in of_each_call(0, k, WIDE):
                self.assertEqual(last(SMALL, call), [-4], call)
        for k in (-1, 3, HUGE, -HUGE):
            for call in of_each_call(1, k, TALL):
                self.assertEqual(last(SMALL, call), [-4], call)

    def test_the_last_line_of_each_way_is_there(self):
        for call in of_each_call(0, 1, WIDE) + of_each_call(1, 2, TALL):
            self.assertEqual(last(SMALL, call)[0], 0, call)

    def test_before_a_wrong_length(self):
        for call in (put(0, 2, []), put(0, -1, [0] * 40), put(1, 3, WIDE)):
            self.assertEqual(last(SMALL, call), [-4], call)

    def test_of_a_shape_and_moves_before_a_wrong_length(self):
        for call in (
            of_shape(0, 2, [], [])
            + of_shape(0, -1, [0] * 40, [16] * 40)
            + of_shape(1, 3, [0], TALL)
            + of_moved(0, 2, [0], TALL)
            + of_moved(1, HUGE, [], WIDE)
        ):
            self.assertEqual(last(SMALL, call), [-4], call)


class WrongLength(unittest.TestCase):
    def test_not_as_many_ys_as_nails(self):
        for call in (
            put(0, 0, []),
            put(0, 0, TALL),
            put(0, 0, [0] * 4),
            put(0, 0, [0] * 40),
            put(1, 0, []),
            put(1, 0, [0]),
            put(1, 0, WIDE),
        ):
            self.assertEqual(last(SMALL, call), [-9], call)

    def test_a_shape_not_as_long_as_the_inner_nails(self):
        for shape in ([], [0, 0], [0, 0, 0], [3] * 40):
            for call in of_shape(0, 0, shape, WIDE):
                self.assertEqual(last(SMALL, call), [-9], call)
        for shape in ([0], [0, 0], [3] * 40):
            for call in of_shape(1, 0, shape, TALL):
                self.assertEqual(last(SMALL, call), [-9], call)

    def test_moves_not_as_many_as_the_nails(self):
        for moves in ([], [0], TALL, [0] * 4, [16] * 40):
            for call in of_moved(0, 0, [0], moves):
                self.assertEqual(last(SMALL, call), [-9], call)
        for moves in ([], [0], WIDE, [16] * 40):
            for call in of_moved(1, 0, [], moves):
                self.assertEqual(last(SMALL, call), [-9], call)

    def test_both(self):
        for call in of_moved(0, 0, [], []) + of_moved(0, 0, [0] * 3, [0]) + of_moved(1, 0, [0], WIDE):
            self.assertEqual(last(SMALL, call), [-9], call)

    def test_lengths_of_one_way_are_wrong_for_the_other(self):
        for call in of_shape(1, 0, [0], WIDE) + of_shape(0, 0, [], TALL):
            self.assertEqual(last(SMALL, call), [-9], call)


class NoneFair(unittest.TestCase):
    """The inner nail of the line is full, and no nail may be moved."""

    def test_least_alone_is_refused_so(self):
        found = ask(SMALL, *of_shape(0, 0, [1], WIDE))
        self.assertEqual(found[1:], [[0, 1], [-5], [0, 0], [0, 3]])

    def test_behind_all_other_refusals(self):
        for call, told in (
            (least(0, 0, [1], WIDE), -5),
            (least(0, 0, [1, 1], WIDE), -9),
            (least(0, 0, [1], TALL), -9),
            (least(0, 2, [1], WIDE), -4),
            (least(0, 0, [1], [0, 0, 17]), -1),
            (least(0, 0, [4], WIDE), -1),
            (least(2, 0, [1], WIDE), -1),
        ):
            self.assertEqual(last(SMALL, call), [told], call)
        self.assertEqual(last(least(0, 0, [1], WIDE)), [-3])


class NothingChanges(unittest.TestCase):
    def test_a_refused_call_leaves_the_table_as_it_was(self):
        looked = (line(0, 0), line(0, 1), stands(0, 0), stands(0, 1))
        before = ask(SMALL, *looked)[1:]
        for call in (
            of_each_call(2, 0, WIDE)
            + of_each_call(0, 2, WIDE)
            + of_shape(0, 0, [4], WIDE)
            + of_shape(0, 0, [], WIDE)
            + of_moved(0, 0, [0], [17, 0, 0])
            + of_moved(0, 0, [0], TALL)
            + (least(0, 0, [1], WIDE),)
        ):
            found = ask(SMALL, call, *looked)
            self.assertLess(found[1][0], 0, call)
            self.assertEqual(len(found[1]), 1, call)
            self.assertEqual(found[2:], before, call)


if __name__ == "__main__":
    unittest.main()
