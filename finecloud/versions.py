"""Versions: rows of points, each made of an earlier one, and what two of them have done since they parted."""

from finecloud.numbers import is_between
from finecloud.storeerrors import BadVersion


def rows_between(one, other):
    """(points cut, points added): what makes the other row of a row."""
    return _without(one, other), _without(other, one)


def rows_edited(points, edit):
    """The row behind an edit: those cut that are there go, then those added come that aren't there."""
    cut, added = edit
    left = _without(points, cut)
    return tuple(sorted(left + _without(added, left)))


def _without(row, other):
    """The points of a row that aren't in another one."""
    there = {point: True for point in other}
    return tuple([point for point in row if point not in there])


class History:
    """Versions by their numbers: 0 has no points, each other one is made of one with a lower number."""

    def __init__(self):
        self.rows = [()]
        # Version 0 is made of none.
        self.made_of = [None]

    def many(self):
        """How many versions there are."""
        return len(self.rows)

    def put(self, number, points):
        """One more version, made of that with a number; its own number."""
        self._check(number)
        self.rows.append(tuple(points))
        self.made_of.append(number)
        return self.many() - 1

    def points(self, number):
        """The row of a version."""
        self._check(number)
        return self.rows[number]

    def above(self, number):
        """A version, the one that it is made of, and so on, to 0."""
        self._check(number)
        found = []
        while number is not None:
            found.append(number)
            number = self.made_of[number]
        return found

    def common(self, one, other):
        """The greatest version that is above both."""
        self._check(one)
        self._check(other)
        # The greater one is not above the other, so what is above both is above what the greater is made of.
        while one != other:
            if one > other:
                one = self.made_of[one]
            else:
                other = self.made_of[other]
        return one

    def joined(self, one, other):
        """The row with what both versions did since their common one."""
        start = self.points(self.common(one, other))
        # Where both did something to a point, they did the same: it went, or it came.
        return rows_edited(self.points(one), rows_between(start, self.points(other)))

    def _check(self, number):
        """No number of a version is wrong."""
        if not is_between(number, 0, self.many() - 1):
            raise BadVersion(number)
