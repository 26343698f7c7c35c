"""Pieces: counts of prefixes that come in any order, and what they tell together."""

from finecloud.balls import halves_of
from finecloud.clouds import cloud_of
from finecloud.errors import BadPiece
from finecloud.numbers import is_between
from finecloud.rests import rests_of


def piece_of(cloud, prefix, deeper):
    """The counts of a prefix and of all those inside it that are at most so much longer."""
    piece = {prefix: cloud.count(prefix)}
    longest = [prefix]
    for _ in range(min(deeper, cloud.space.depth - prefix[0])):
        longest = [half for one in longest for half in halves_of(one)]
        for half in longest:
            piece[half] = cloud.count(half)
    return piece


class Knowledge:
    """Facts, counts of prefixes, and what all clouds that have them have in common."""

    def __init__(self, space, facts):
        for prefix, count in facts.items():
            if not space.is_prefix(prefix) or not is_between(count, 0, space.size(prefix)):
                raise BadPiece(prefix)
        self.space = space
        self.facts = {prefix: facts[prefix] for prefix in facts}
        self.rests = rests_of(space, self.facts)
        for prefix, rest in self.rests.items():
            if not rest.is_possible():
                raise BadPiece(prefix)

    def __eq__(self, other):
        return isinstance(other, Knowledge) and self.space == other.space and self.facts == other.facts

    def joined(self, other):
        """What both tell together."""
        facts = {prefix: self.facts[prefix] for prefix in self.facts}
        for prefix, count in other.facts.items():
            if facts.setdefault(prefix, count) != count:
                raise BadPiece(prefix)
        return Knowledge(self.space, facts)

    def bounds(self, region):
        """The least and the greatest number of points in a region, over all clouds that have the facts."""
        limits = [_limits_in(rest, region) for rest in self.rests.values()]
        return sum([least for least, _ in limits]), sum([most for _, most in limits])

    def some_cloud(self, region, is_most):
        """A cloud that has the facts, with the greatest number of points in a region, else with the least."""
        numbers = []
        for rest in self.rests.values():
            numbers.extend(_filled(rest, region, is_most))
        return cloud_of(self.space, numbers)

    def known(self, prefix):
        """The count of a prefix if all clouds that have the facts have the same, else None."""
        if prefix in self.facts:
            return self.facts[prefix]
        rest = self.rest_around(prefix)
        inner = rest.inside(prefix)
        least, most = rest.limits(self.space.size(prefix) - sum([self.space.size(one) for one in inner]))
        if least < most:
            return None
        return least + sum([self.facts[one] for one in inner])

    def inside(self, prefix):
        """The greatest known prefixes inside a prefix."""
        return self.rest_around(prefix).inside(prefix)

    def rest_around(self, prefix):
        """The rest of the longest known prefix that a prefix is inside of, or else that of the whole space."""
        length, number = prefix
        while length > 0 and (length, number) not in self.rests:
            length = length - 1
            number = number // 2
        return self.rests.get((length, number), self.rests[0, 0])


def _limits_in(rest, region):
    """The least and the greatest number of points of a rest in a region."""
    # Counting the room of a region may take long, and most rests have no points.
    if rest.left == 0 or rest.places == 0:
        return 0, 0
    return rest.limits(region.room(rest.prefix) - sum([region.room(one) for one in rest.inner]))


def _filled(rest, region, is_most):
    """The woven numbers of as many points of a rest as are left, in a region as far as can be, else outside of it."""
    space = rest.space
    within = []
    without = []
    for prefix in rest.parts():
        size = space.size(prefix)
        for number in range(prefix[1] * size, prefix[1] * size + size):
            if region.holds(space.point_of(number)):
                within.append(number)
            else:
                without.append(number)
    if rest.left is None:
        return within if is_most else []
    ordered = within + without if is_most else without + within
    return ordered[:rest.left]
