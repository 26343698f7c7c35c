"""Clouds: sets of points, kept as the ascending row of their woven numbers."""

from finecloud.errors import BadPoint
from finecloud.numbers import place_in


class Cloud:
    """A set of points of a space."""

    def __init__(self, space, points):
        self.space = space
        self.row = _row_of(space, points)

    def __eq__(self, other):
        return isinstance(other, Cloud) and self.space == other.space and self.row == other.row

    def points(self):
        """The points, ascending by their woven numbers."""
        return tuple([self.space.point_of(number) for number in self.row])

    def many(self):
        """How many points there are."""
        return len(self.row)

    def has(self, point):
        """Whether a point is in the cloud; what is no point is wrong."""
        number = self.space.woven(point)
        return place_in(self.row, number) < place_in(self.row, number + 1)

    def count(self, prefix):
        """How many points of the cloud are of a prefix."""
        size = self.space.size(prefix)
        first = prefix[1] * size
        return place_in(self.row, first + size) - place_in(self.row, first)

    def added(self, point):
        """The cloud with one more point."""
        if self.has(point):
            raise BadPoint(point)
        number = self.space.woven(point)
        at = place_in(self.row, number)
        return cloud_of(self.space, self.row[:at] + (number,) + self.row[at:])

    def removed(self, point):
        """The cloud without one of its points."""
        if not self.has(point):
            raise BadPoint(point)
        at = place_in(self.row, self.space.woven(point))
        return cloud_of(self.space, self.row[:at] + self.row[at + 1:])

    def view(self, fineness):
        """The prefixes of this length that have points, with their counts; beyond the depth nothing is finer."""
        left = max(0, self.space.depth - fineness)
        counts = {}
        for number in self.row:
            prefix = number >> left
            counts[prefix] = counts.get(prefix, 0) + 1
        return tuple(counts.items())


def cloud_of(space, numbers):
    """The cloud of the points with these woven numbers."""
    cloud = Cloud(space, ())
    cloud.row = tuple(sorted(numbers))
    return cloud


def _row_of(space, points):
    """The ascending woven numbers of points; the first one that is no point, or stands there twice, is wrong."""
    seen = set()
    for point in points:
        number = space.woven(point)
        if number in seen:
            raise BadPoint(point)
        seen.add(number)
    return tuple(sorted(seen))
