"""Motions: turns, mirrorings and shifts of points."""

from itertools import permutations


def turned_by(point, turn):
    """The point whose coordinate at each place is that of the axis there, times the sign."""
    axes, signs = turn
    return tuple([point[axis] * sign for axis, sign in zip(axes, signs)])


def shifted_by(point, shift):
    """The point with each coordinate greater by the shift's."""
    return tuple([part + more for part, more in zip(point, shift)])


def moved(point, motion):
    """A point turned, then shifted."""
    turn, shift = motion
    return shifted_by(turned_by(point, turn), shift)


def turns_of(many, are_mirrored):
    """All turns of so many dimensions, ascending; without mirrorings only those that are none."""
    rows = [()]
    for _ in range(many):
        rows = [row + (sign,) for row in rows for sign in (-1, 1)]
    turns = [(axes, signs) for axes in permutations(range(many)) for signs in rows]
    return [turn for turn in turns if are_mirrored or is_proper(turn[0], turn[1])]


def is_proper(axes, signs):
    """Whether a turn is no mirroring: the number of signs -1 and of pairs of axes out of their order is even."""
    crossed = [axis for place, axis in enumerate(axes) for ahead in axes[:place] if ahead > axis]
    return (signs.count(-1) + len(crossed)) % 2 == 0


def still(many):
    """The motion of so many dimensions that leaves all."""
    return (tuple(range(many)), (1,) * many), (0,) * many


def behind(first, second):
    """The motion that does the first, then the second one."""
    (axes, signs), shift = first
    turn = second[0]
    return (tuple([axes[axis] for axis in turn[0]]), turned_by(signs, turn)), moved(shift, second)


def undone(motion):
    """The motion that takes a motion back."""
    (axes, signs), shift = motion
    places = tuple([axes.index(axis) for axis in range(len(axes))])
    turn = places, tuple([signs[place] for place in places])
    return turn, tuple([-part for part in turned_by(shift, turn)])
