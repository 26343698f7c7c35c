"""What is certain: the nearest points in all clouds that have some facts."""

from finecloud.asking import check_asked
from finecloud.balls import Ball, Lone, Rounds, ball_among, greatest_square, square_between
from finecloud.errors import BadPoint


def nearest_bounds(knowledge, centre, many):
    """The least and the greatest square of the so many-th nearest point, over all clouds that have the facts."""
    check_asked(knowledge.space, centre, many, 1)
    # The ball of the last square has all points of the space.
    rounds = Rounds(knowledge.space, centre, greatest_square(knowledge.space, centre, (0, 0)))
    return _square_where(knowledge, rounds, many, True), _square_where(knowledge, rounds, many, False)


def _square_where(knowledge, rounds, many, is_most):
    """The least square whose ball, with as many points as can be or else as few, has so many; None if none has."""
    low = 0
    high = rounds.last + 1
    while low < high:
        middle = (low + high) // 2
        least, most = knowledge.bounds(ball_among(rounds, middle))
        if (most if is_most else least) >= many:
            high = middle
        else:
            low = middle + 1
    return low if low <= rounds.last else None


def is_possible(knowledge, centre, point):
    """Whether a point is a nearest one in some cloud that has the facts."""
    there, nearer = _bounds_at(knowledge, centre, point)
    # Both are so in one cloud: points can be moved out of the ball of nearer ones to this one's place, too.
    return there[1] == 1 and nearer[0] == 0


def is_sure(knowledge, centre, point):
    """Whether a point is a nearest one in all clouds that have the facts."""
    there, nearer = _bounds_at(knowledge, centre, point)
    return there[0] == 1 and nearer[1] == 0


def _bounds_at(knowledge, centre, point):
    """The least and the greatest number of points at a point, and of those that are nearer to the centre."""
    space = knowledge.space
    for thing in (point, centre):
        if not space.is_point(thing):
            raise BadPoint(thing)
    nearer = Ball(space, centre, square_between(centre, point) - 1)
    return knowledge.bounds(Lone(space, point)), knowledge.bounds(nearer)
