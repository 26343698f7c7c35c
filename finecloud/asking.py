"""Asking: how many points of a cloud are in a box, which, and which are nearest to a centre."""

from heapq import heappop, heappush

from finecloud.balls import halves_of, least_square, square_between
from finecloud.errors import BadPoint
from finecloud.numbers import is_between, place_in

# Of alike squares prefixes come before points, for in them may be a point that is ahead.
PREFIX = 0
POINT = 1


def count_in(cloud, box):
    """How many points of a cloud are in a box."""
    return sum([high - low for low, high in _spans_in(cloud, box)])


def points_in(cloud, box):
    """The points of a cloud that are in a box, ascending as tuples."""
    spans = _spans_in(cloud, box)
    return tuple(sorted([cloud.space.point_of(number) for low, high in spans for number in cloud.row[low:high]]))


def _spans_in(cloud, box):
    """The parts of a cloud's row, each from a place up to another one, that are in a box."""
    spans = []
    waiting = [((0, 0), 0, cloud.many())]
    while waiting:
        prefix, low, high = waiting.pop()
        room = 0
        if low < high:
            room = box.room(prefix)
        if room == cloud.space.size(prefix):
            spans.append((low, high))
        elif room > 0:
            waiting.extend(_halves(cloud, prefix, low, high))
    return spans


def _halves(cloud, prefix, low, high):
    """The halves of a prefix, each with the part of a cloud's row from its first point up to behind its last."""
    first, second = halves_of(prefix)
    middle = low + place_in(cloud.row[low:high], second[1] * cloud.space.size(second))
    return [(first, low, middle), (second, middle, high)]


def nearest(cloud, centre, many):
    """(rows, looked): the squares and points of the so many nearest points, and how many prefixes were looked at."""
    check_asked(cloud.space, centre, many, 0)
    found = []
    looked = 0
    waiting = [(0, PREFIX, (0, 0), 0, cloud.many())]
    while waiting and len(found) < many:
        square, kind, thing, low, high = heappop(waiting)
        if kind == POINT:
            found.append((square, thing))
        else:
            looked = looked + 1
            for entry in _entries(cloud, centre, thing, low, high):
                heappush(waiting, entry)
    return tuple(found), looked


def _entries(cloud, centre, prefix, low, high):
    """What is to be looked at within a prefix: a lone point itself, else both halves, if they have points."""
    if high - low == 1:
        point = cloud.space.point_of(cloud.row[low])
        return [(square_between(centre, point), POINT, point, low, high)]
    entries = []
    for half, first, last in _halves(cloud, prefix, low, high):
        if first < last:
            entries.append((least_square(cloud.space, centre, half), PREFIX, half, first, last))
    return entries


def nearest_plain(cloud, centre, many):
    """The squares and points of the so many nearest points, by looking at all."""
    check_asked(cloud.space, centre, many, 0)
    return tuple(sorted([(square_between(centre, point), point) for point in cloud.points()])[:many])


def check_asked(space, centre, many, fewest):
    """No point as a centre is wrong, then no number from the fewest to that of all points."""
    if not space.is_point(centre):
        raise BadPoint(centre)
    if not is_between(many, fewest, space.size((0, 0))):
        raise BadPoint(many)
