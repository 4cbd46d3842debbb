"""Tables of half-breadths: what keeps one from being taken, its lines, and how their nails stand."""

GREATEST = 1048575
FEWEST = 2
MOST_STATIONS = 24
MOST_LEVELS = 16

TAKEN = 0
WRONG_COUNT = 1
WRONG_SIZE = 2
WRONG_PLACE = 3
WRONG_HEIGHT = 4
WRONG_BREADTH = 5

HOLLOW = 1
FULL = 2
STRAIGHT = 3


def first_not_rising(numbers, least):
    """The index of the first number that is below least, no measure, or not above the one before; else None."""
    floor = least
    for index, number in enumerate(numbers):
        if not floor <= number <= GREATEST:
            return index
        floor = number + 1
    return None


def first_beyond(numbers, most):
    """The index of the first number that isn't from 0 to most; else None."""
    for index, number in enumerate(numbers):
        if not 0 <= number <= most:
            return index
    return None


def fault_of_sizes(places, heights, half_breadths):
    """The kind and number by which the lists' lengths make no table; else None."""
    if not FEWEST <= len(places) <= MOST_STATIONS:
        return [WRONG_SIZE, 0]
    if not FEWEST <= len(heights) <= MOST_LEVELS:
        return [WRONG_SIZE, 1]
    if len(half_breadths) != len(places) * len(heights):
        return [WRONG_COUNT, len(half_breadths)]
    return None


def verdict_on(places, heights, half_breadths):
    """The kind and number that make answers: 0 and 0 if the lists make a table."""
    fault = fault_of_sizes(places, heights, half_breadths)
    if fault is not None:
        return fault
    place = first_not_rising(places, 0)
    if place is not None:
        return [WRONG_PLACE, place]
    height = first_not_rising(heights, -GREATEST)
    if height is not None:
        return [WRONG_HEIGHT, height]
    breadth = first_beyond(half_breadths, GREATEST)
    if breadth is not None:
        return [WRONG_BREADTH, breadth]
    return [TAKEN, 0]


class Table:
    """Places, heights, and the half-breadths level by level, in a level station by station."""

    def __init__(self, places, heights, half_breadths):
        self.places = list(places)
        self.heights = list(heights)
        self.half_breadths = list(half_breadths)

    def line_count(self, way):
        """How many lines the way has: one for each level (way 0) or for each station (way 1)."""
        return len(self.heights) if way == 0 else len(self.places)

    def spots(self, way, k):
        """Where the line's half-breadths lie; both ways share one list, so a put in one is seen in the other."""
        stations = len(self.places)
        if way == 0:
            return [k * stations + station for station in range(stations)]
        return [level * stations + k for level in range(len(self.heights))]

    def nail_xs(self, way):
        """The x's of the nails of each line of the way."""
        return list(self.places) if way == 0 else list(self.heights)

    def nail_ys(self, way, k):
        """The y's of the line's nails."""
        return [self.half_breadths[spot] for spot in self.spots(way, k)]

    def put_ys(self, way, k, ys):
        """Gives the line's nails these y's."""
        for spot, y in zip(self.spots(way, k), ys):
            self.half_breadths[spot] = y


def stands_of(xs, ys):
    """How each inner nail stands, in order."""
    found = []
    for nail in range(1, len(xs) - 1):
        step_before = xs[nail] - xs[nail - 1]
        step_behind = xs[nail + 1] - xs[nail]
        bend = (ys[nail + 1] - ys[nail]) * step_before - (ys[nail] - ys[nail - 1]) * step_behind
        if bend > 0:
            found.append(HOLLOW)
        elif bend < 0:
            found.append(FULL)
        else:
            found.append(STRAIGHT)
    return found
