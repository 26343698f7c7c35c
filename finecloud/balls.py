"""Balls and lone points: regions beside boxes, and squares of distances."""

from finecloud.errors import BadPoint
from finecloud.numbers import place_in
from finecloud.space import is_inside


def square_between(one, other):
    """The square of the distance of two points."""
    return sum([(part - beside) * (part - beside) for part, beside in zip(one, other)])


def least_square(space, centre, prefix):
    """The least square from a centre to a point of a prefix."""
    return _least(_spans(space, centre, prefix))


def greatest_square(space, centre, prefix):
    """The greatest square from a centre to a point of a prefix."""
    return _greatest(_spans(space, centre, prefix))


def _spans(space, centre, prefix):
    """Along each axis, the least and the greatest difference of a point of a prefix from a centre."""
    lows, highs = space.cell(prefix)
    return [(low - middle, high - middle) for low, middle, high in zip(lows, centre, highs)]


def _least(spans):
    """The least sum of squares of differences, one of each span."""
    parts = [max(0, low, -high) for low, high in spans]
    return sum([part * part for part in parts])


def _greatest(spans):
    """The greatest sum of squares of differences, one of each span."""
    parts = [max(-low, high) for low, high in spans]
    return sum([part * part for part in parts])


def halves_of(prefix):
    """The two prefixes that are one bit longer, the one with 0 first."""
    length, number = prefix
    return (length + 1, 2 * number), (length + 1, 2 * number + 1)


class Rounds:
    """Points by their squares from a centre, up to a last square; what is worked out for one square serves others."""

    def __init__(self, space, centre, last):
        self.space = space
        self.centre = centre
        self.last = last
        self.sums = {}

    def many_within(self, prefix, square):
        """How many points of a prefix are at most a square, not above the last one, from the centre."""
        spans = _spans(self.space, self.centre, prefix)
        if _greatest(spans) <= square:
            return self.space.size(prefix)
        if _least(spans) > square:
            return 0
        sums = self._sums_of(tuple(spans[:-1]))
        return sum([place_in(sums, square - part + 1) for part in self._squares_of(spans[-1])])

    def _squares_of(self, span):
        """The squares of a span's differences, ascending."""
        low, high = span
        return sorted([part * part for part in range(low, high + 1) if part * part <= self.last])

    def _sums_of(self, spans):
        """The sums of squares of differences, one of each span, ascending."""
        if spans not in self.sums:
            sums = [0]
            for span in spans:
                parts = self._squares_of(span)
                sums = [total + part for total in sums for part in parts if total + part <= self.last]
            self.sums[spans] = sorted(sums)
        return self.sums[spans]


class Ball:
    """All points at most a square from a centre; none if the square is below 0."""

    def __init__(self, space, centre, square):
        if not space.is_point(centre):
            raise BadPoint(centre)
        self.space = space
        self.centre = centre
        self.square = square
        self.rounds = Rounds(space, centre, square)

    def holds(self, point):
        """Whether a point is in the ball."""
        return square_between(self.centre, point) <= self.square

    def room(self, prefix):
        """How many points of the ball are of a prefix."""
        return self.rounds.many_within(prefix, self.square)


def ball_among(rounds, square):
    """A ball about the centre of rounds, which counts by them."""
    ball = Ball(rounds.space, rounds.centre, square)
    ball.rounds = rounds
    return ball


class Lone:
    """One point alone."""

    def __init__(self, space, point):
        if not space.is_point(point):
            raise BadPoint(point)
        self.space = space
        self.point = point

    def holds(self, point):
        """Whether a point is this one."""
        return point == self.point

    def room(self, prefix):
        """1 if the point is of a prefix, else 0."""
        return int(is_inside((self.space.depth, self.space.woven(self.point)), prefix))
