"""Spaces, their points and prefixes, and boxes."""

from finecloud.errors import BadPoint, BadSpace
from finecloud.numbers import is_between, power

MOST_DIMENSIONS = 3
MOST_BITS = 10


class Space:
    """All points of 1 to 3 coordinates of 1 to 10 bits."""

    def __init__(self, dimensions, bits):
        if not is_between(dimensions, 1, MOST_DIMENSIONS):
            raise BadSpace("dimensions")
        if not is_between(bits, 1, MOST_BITS):
            raise BadSpace("bits")
        self.dimensions = dimensions
        self.bits = bits
        self.depth = dimensions * bits
        self.side = power(bits)

    def __eq__(self, other):
        return isinstance(other, Space) and self.dimensions == other.dimensions and self.bits == other.bits

    def is_point(self, thing):
        """Whether a thing is a point of the space."""
        if not isinstance(thing, tuple) or len(thing) != self.dimensions:
            return False
        return all([is_between(part, 0, self.side - 1) for part in thing])

    def woven(self, point):
        """The number of a point: the first bits of all coordinates, then the second ones, and so on."""
        if not self.is_point(point):
            raise BadPoint(point)
        number = 0
        for place in reversed(range(self.bits)):
            for part in point:
                number = number << 1 | part >> place & 1
        return number

    def point_of(self, number):
        """The point with a woven number."""
        parts = [0] * self.dimensions
        left = self.depth
        for _ in range(self.bits):
            for axis in range(self.dimensions):
                left -= 1
                parts[axis] = parts[axis] << 1 | number >> left & 1
        return tuple(parts)

    def is_prefix(self, thing):
        """Whether a thing is a prefix: a length and a number of so many bits."""
        if not isinstance(thing, tuple) or len(thing) != 2:
            return False
        length, number = thing
        return is_between(length, 0, self.depth) and is_between(number, 0, power(length) - 1)

    def size(self, prefix):
        """How many points are of a prefix; none are of one that is longer than their bits."""
        return power(self.depth - prefix[0])

    def cell(self, prefix):
        """The lowest and the highest corner of the points of a prefix."""
        size = self.size(prefix)
        first = prefix[1] * size
        if size == 0:
            # No point lies between corners the wrong way round.
            return self.point_of(-1), self.point_of(0)
        return self.point_of(first), self.point_of(first + size - 1)


class Box:
    """All points from lows to highs, coordinate by coordinate."""

    def __init__(self, space, lows, highs):
        for corner in (lows, highs):
            if not space.is_point(corner):
                raise BadPoint(corner)
        if any([low > high for low, high in zip(lows, highs)]):
            raise BadPoint(highs)
        self.space = space
        self.lows = lows
        self.highs = highs

    def holds(self, point):
        """Whether a point is in the box."""
        return all([low <= part <= high for low, part, high in zip(self.lows, point, self.highs)])

    def room(self, prefix):
        """How many points of the box are of a prefix."""
        lows, highs = self.space.cell(prefix)
        room = 1
        for axis in range(self.space.dimensions):
            first = max(lows[axis], self.lows[axis])
            last = min(highs[axis], self.highs[axis])
            room = room * max(0, last - first + 1)
        return room


def is_inside(prefix, other):
    """Whether all points of a prefix are of the other one."""
    longer = prefix[0] - other[0]
    return longer >= 0 and prefix[1] >> longer == other[1]


def prefixes_of(box):
    """The fewest prefixes that have each point of a box once, and no other; ascending by place."""
    found = []
    last = box.space.side - 1
    sides = [_side_left(box, axis, 0, last) for axis in range(box.space.dimensions)]
    waiting = [(0, 0, tuple(sides))]
    while waiting:
        length, number, sides = waiting.pop()
        if sides.count(None) == len(sides):
            found.append((length, number))
        else:
            waiting.extend(_halves_met(box, length, number, sides))
    return found


def _side_left(box, axis, low, high):
    """None if a side of a cell is within the box's, else the side itself."""
    if box.lows[axis] <= low and high <= box.highs[axis]:
        return None
    return low, high


def _halves_met(box, length, number, sides):
    """Those halves of a cell that the box meets, the upper one first, for the last one waiting is looked at next."""
    axis = length % box.space.dimensions
    if sides[axis] is None:
        return [(length + 1, 2 * number + 1, sides), (length + 1, 2 * number, sides)]
    low, high = sides[axis]
    middle = (low + high) // 2
    met = []
    for half, first, last in ((2 * number + 1, middle + 1, high), (2 * number, low, middle)):
        if first <= box.highs[axis] and box.lows[axis] <= last:
            side = _side_left(box, axis, first, last)
            met.append((length + 1, half, sides[:axis] + (side,) + sides[axis + 1:]))
    return met
