"""Shapes: whether a line is fair by one, and which of its moved lines are.

The moved lines are far too many to be tried one by one. How a nail stands hangs on its two neighbours alone, so all
beginnings of moved lines that have the last two y's in common go on alike: they are kept as one tally. Rows hold
these tallies: one row for each y of the last nail, in it one tally for each y of the nail before.

What is tallied is told by a class: nothing is the tally where there's no beginning, costs what each y of each nail
tells, either the tally of two lots of beginnings together, along that of a lot which has got one y more.
"""

from fairlines.tables import FULL, GREATEST, HOLLOW, STRAIGHT, stands_of

ANY = 0
GREATEST_WISH = 3
FARTHEST = 16
MOST_CHOICES = 33


def first_unfair(xs, ys, shape):
    """The number of the first nail that doesn't stand as the shape asks, else 0, for nail 0 is never an inner one."""
    for index, stand in enumerate(stands_of(xs, ys)):
        if stand != STRAIGHT and shape[index] not in (ANY, stand):
            return index + 1
    return 0


def choices_of(y, move):
    """The y's that a nail may be moved to, rising."""
    return list(range(max(0, y - move), min(GREATEST, y + move) + 1))


class Room:
    """A line, how its inner nails are to stand, and which y's each of its nails may have."""

    def __init__(self, xs, ys, shape, moves):
        self.xs = xs
        self.ys = ys
        self.shape = shape
        self.moves = moves
        self.choices = [choices_of(y, move) for y, move in zip(ys, moves)]

    def moved_by(self, nail):
        """How far the nail is moved by each of its choices."""
        return [abs(choice - self.ys[nail]) for choice in self.choices[nail]]


class Counts:
    """Tallies how many beginnings there are."""

    def __init__(self, room):
        self.nothing = 0
        self.costs = [[1] * len(choices) for choices in room.choices]

    def either(self, one, other):
        return one + other

    def along(self, tally, cost):
        return tally * cost


class GreatestMoves:
    """Tallies the least that the greatest move of a beginning can be."""

    def __init__(self, room):
        self.nothing = FARTHEST + 1
        self.costs = [room.moved_by(nail) for nail in range(len(room.xs))]

    def either(self, one, other):
        return one if one < other else other

    def along(self, tally, cost):
        return tally if tally > cost else cost


def digit_weights(count):
    """What each of so many digits weighs in a number, the first digit's weight first."""
    weights = [1]
    while len(weights) < count:
        weights.append(weights[-1] * MOST_CHOICES)
    return list(reversed(weights))


def rank_costs(moved, sum_weight, digit_weight):
    """What each choice of a nail adds to a rank."""
    return [move * sum_weight + digit * digit_weight for digit, move in enumerate(moved)]


class Ranks:
    """Tallies the least rank of a beginning.

    A rank is the sum of the moves with a digit for each nail behind it: the number of the nail's choice. So the lesser
    of two ranks has the lesser sum, or else the lesser y at the first nail at which they differ.
    """

    def __init__(self, room):
        nails = len(room.xs)
        weights = digit_weights(nails + 1)
        # No rank comes up to this, for no sum of moves is greater than that of all nails moved the farthest.
        self.nothing = (nails * FARTHEST + 1) * weights[0]
        self.costs = [rank_costs(room.moved_by(nail), weights[0], weights[nail + 1]) for nail in range(nails)]

    def either(self, one, other):
        return one if one < other else other

    def along(self, tally, cost):
        return tally + cost


def choices_of_rank(room, rank):
    """The y's of the line that has the rank."""
    weights = digit_weights(len(room.xs) + 1)
    ys = []
    for nail, choices in enumerate(room.choices):
        ys.append(choices[rank // weights[nail + 1] % MOST_CHOICES])
    return ys


def gathered(tallies, row):
    """What the first none, one, two and so on, and last all of the row come to together."""
    together = tallies.nothing
    found = [together]
    for tally in row:
        together = tallies.either(together, tally)
        found.append(together)
    return found


def total(tallies, rows):
    """What all of the rows come to together."""
    return gathered(tallies, [gathered(tallies, row)[-1] for row in rows])[-1]


def clamped(number, most):
    """The number itself if it's from 0 to most, else the nearer of these two."""
    if number < 0:
        return 0
    return number if number < most else most


def straight_points(room, nail, here):
    """For each y of the nail behind: the y of the nail before, times the step behind, by which this one is straight.

    Above it the nail is hollow, below it full. Times the step, for the y itself needn't be whole.
    """
    step_before = room.xs[nail] - room.xs[nail - 1]
    step_behind = room.xs[nail + 1] - room.xs[nail]
    return [here * step_behind - (behind - here) * step_before for behind in room.choices[nail + 1]]


def hollow_or_straight(tallies, row, lowest, points, step):
    """For each point what those of the row come to whose y, from lowest on rising by 1, is at the point or above."""
    from_above = gathered(tallies, list(reversed(row)))
    end = lowest + len(row)
    return [from_above[clamped(end + (-point) // step, len(row))] for point in points]


def full_or_straight(tallies, row, lowest, points, step):
    """For each point what those of the row come to whose y, from lowest on rising by 1, is at the point or below."""
    from_below = gathered(tallies, row)
    return [from_below[clamped(point // step + 1 - lowest, len(row))] for point in points]


def straight_alone(tallies, row, lowest, points, step):
    """For each point the one of the row whose y, from lowest on rising by 1, is at the point."""
    found = []
    for point in points:
        index = point // step - lowest
        hit = point % step == 0 and 0 <= index < len(row)
        found.append(row[index] if hit else tallies.nothing)
    return found


def tallies_behind(room, tallies, nail, here, row):
    """For each y of the nail behind what those of the row come to by which the nail, at here, stands as it is to."""
    wish = room.shape[nail - 1]
    if wish == ANY:
        return [gathered(tallies, row)[-1]] * len(room.choices[nail + 1])
    lowest = room.choices[nail - 1][0]
    points = straight_points(room, nail, here)
    step = room.xs[nail + 1] - room.xs[nail]
    if wish == HOLLOW:
        return hollow_or_straight(tallies, row, lowest, points, step)
    if wish == FULL:
        return full_or_straight(tallies, row, lowest, points, step)
    return straight_alone(tallies, row, lowest, points, step)


def with_cost(tallies, row, cost):
    return [tallies.along(tally, cost) for tally in row]


def first_rows(tallies):
    """The rows of all beginnings of two nails."""
    return [with_cost(tallies, tallies.costs[0], cost) for cost in tallies.costs[1]]


def nth_of_each(columns, index):
    return [column[index] for column in columns]


def next_rows(room, tallies, nail, rows):
    """The rows of the beginnings with the nail behind too, those in which the nail stands as the shape asks."""
    columns = [tallies_behind(room, tallies, nail, here, row) for here, row in zip(room.choices[nail], rows)]
    costs = tallies.costs[nail + 1]
    return [with_cost(tallies, nth_of_each(columns, index), cost) for index, cost in enumerate(costs)]


def total_of_fair(room, tallies):
    """What all fair moved lines come to together."""
    rows = first_rows(tallies)
    for nail in range(1, len(room.xs) - 1):
        rows = next_rows(room, tallies, nail, rows)
    return total(tallies, rows)


def how_many_fair(room):
    return total_of_fair(room, Counts(room))


def nails_showing_none(room):
    """By how few of the first nails it shows that no moved line is fair; 0 if one is."""
    tallies = Counts(room)
    rows = first_rows(tallies)
    for nail in range(1, len(room.xs) - 1):
        rows = next_rows(room, tallies, nail, rows)
        if total(tallies, rows) == 0:
            return nail + 2
    return 0


def nearest(room):
    """The greatest move, the sum of all moves and the y's of the nearest fair moved line; None if there's none."""
    greatest = total_of_fair(room, GreatestMoves(room))
    if greatest > FARTHEST:
        return None
    # Once no nail may go further than the nearest line's greatest move, all fair lines left have that greatest move.
    narrow = Room(room.xs, room.ys, room.shape, [min(move, greatest) for move in room.moves])
    ys = choices_of_rank(narrow, total_of_fair(narrow, Ranks(narrow)))
    moved = [abs(new - old) for new, old in zip(ys, room.ys)]
    return [greatest, sum(moved)] + ys
