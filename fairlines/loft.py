"""The calls on one object, read from one list and answered in one list."""

from fairlines.fair import FARTHEST, GREATEST_WISH, Room, first_unfair, how_many_fair, nails_showing_none, nearest
from fairlines.tables import GREATEST, Table, first_beyond, stands_of, verdict_on

MAKE = 1
LINE = 2
PUT = 3
STANDS = 4
JUDGE = 5
LEAST = 6
MANY = 7
NONE = 8

NO_TABLE = -3
WRONG_NUMBER = -1
NO_LINE = -4
WRONG_LENGTH = -9
NONE_FAIR = -5


class UnknownCall(ValueError):
    """A call has a number that no call here bears."""


class Reader:
    """Goes through the calls number by number, and changes nothing in them."""

    def __init__(self, numbers):
        self.numbers = numbers
        self.at = 0

    def has_more(self):
        return self.at < len(self.numbers)

    def take_number(self):
        number = self.numbers[self.at]
        self.at = self.at + 1
        return number

    def take_row(self):
        """The next row, as a list of its own."""
        size = self.take_number()
        start = self.at
        self.at = start + size
        return self.numbers[start:self.at]


class Loft:
    """The object that the calls are on: it has no table until one is made."""

    def __init__(self):
        self.table = None

    def refusal(self, way, k, numbers_fit):
        """The first of -3, -1 and -4 that holds, else 0; a row's length can be asked for only behind these."""
        if self.table is None:
            return NO_TABLE
        if way not in (0, 1) or not numbers_fit:
            return WRONG_NUMBER
        if not 0 <= k < self.table.line_count(way):
            return NO_LINE
        return 0

    def refusal_of_moving(self, way, k, shape, moves):
        """The first of -3, -1, -4 and -9 that holds, else 0."""
        numbers_fit = first_beyond(shape, GREATEST_WISH) is None and first_beyond(moves, FARTHEST) is None
        refused = self.refusal(way, k, numbers_fit)
        if refused != 0:
            return refused
        nails = len(self.table.nail_xs(way))
        if len(shape) != nails - 2 or len(moves) != nails:
            return WRONG_LENGTH
        return 0

    def room(self, way, k, shape, moves):
        return Room(self.table.nail_xs(way), self.table.nail_ys(way, k), shape, moves)

    def make(self, places, heights, half_breadths):
        verdict = verdict_on(places, heights, half_breadths)
        if verdict == [0, 0]:
            self.table = Table(places, heights, half_breadths)
        return [0] + verdict

    def line(self, way, k):
        refused = self.refusal(way, k, True)
        if refused != 0:
            return [refused]
        return [0] + self.table.nail_ys(way, k)

    def put(self, way, k, ys):
        refused = self.refusal(way, k, first_beyond(ys, GREATEST) is None)
        if refused != 0:
            return [refused]
        if len(ys) != len(self.table.nail_xs(way)):
            return [WRONG_LENGTH]
        self.table.put_ys(way, k, ys)
        return [0]

    def stands(self, way, k):
        refused = self.refusal(way, k, True)
        if refused != 0:
            return [refused]
        return [0] + stands_of(self.table.nail_xs(way), self.table.nail_ys(way, k))

    def judge(self, way, k, shape):
        refused = self.refusal(way, k, first_beyond(shape, GREATEST_WISH) is None)
        if refused != 0:
            return [refused]
        xs = self.table.nail_xs(way)
        if len(shape) != len(xs) - 2:
            return [WRONG_LENGTH]
        return [0, first_unfair(xs, self.table.nail_ys(way, k), shape)]

    def least(self, way, k, shape, moves):
        refused = self.refusal_of_moving(way, k, shape, moves)
        if refused != 0:
            return [refused]
        found = nearest(self.room(way, k, shape, moves))
        if found is None:
            return [NONE_FAIR]
        return [0] + found

    def many(self, way, k, shape, moves):
        refused = self.refusal_of_moving(way, k, shape, moves)
        if refused != 0:
            return [refused]
        return [0, how_many_fair(self.room(way, k, shape, moves))]

    def none(self, way, k, shape, moves):
        refused = self.refusal_of_moving(way, k, shape, moves)
        if refused != 0:
            return [refused]
        return [0, nails_showing_none(self.room(way, k, shape, moves))]


def answer_make(loft, reader):
    places = reader.take_row()
    heights = reader.take_row()
    half_breadths = reader.take_row()
    return loft.make(places, heights, half_breadths)


def answer_on_line(loft, reader, call):
    """Answers a call whose first numbers are a way and a line's number."""
    way = reader.take_number()
    k = reader.take_number()
    if call == LINE:
        return loft.line(way, k)
    if call == PUT:
        return loft.put(way, k, reader.take_row())
    if call == STANDS:
        return loft.stands(way, k)
    if call == JUDGE:
        return loft.judge(way, k, reader.take_row())
    return answer_on_moved(loft, reader, call, way, k)


def answer_on_moved(loft, reader, call, way, k):
    """Answers a call on the moved lines of a line."""
    shape = reader.take_row()
    moves = reader.take_row()
    if call == LEAST:
        return loft.least(way, k, shape, moves)
    if call == MANY:
        return loft.many(way, k, shape, moves)
    return loft.none(way, k, shape, moves)


def answer_next(loft, reader):
    call = reader.take_number()
    if not MAKE <= call <= NONE:
        raise UnknownCall(f"there is no call {call}")
    if call == MAKE:
        return answer_make(loft, reader)
    return answer_on_line(loft, reader, call)


def answers(calls):
    """What each call answers, in order, each with how many numbers that is before it."""
    loft = Loft()
    reader = Reader(calls)
    given = []
    while reader.has_more():
        answer = answer_next(loft, reader)
        given.append(len(answer))
        given.extend(answer)
    return given
