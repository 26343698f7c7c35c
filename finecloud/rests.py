"""Rests: what known prefixes leave when the greatest known ones inside them are taken away."""

from finecloud.balls import halves_of
from finecloud.numbers import place_in
from finecloud.space import is_inside


class Rest:
    """A known prefix, or the whole space, without the greatest known prefixes inside it."""

    def __init__(self, space, facts, prefix, inner):
        self.space = space
        self.prefix = prefix
        self.inner = inner
        self.firsts = [number * space.size((length, number)) for length, number in inner]
        self.places = space.size(prefix) - sum([space.size(one) for one in inner])
        # How many points are left is known but where nobody told how many the whole space has.
        self.left = None
        if prefix in facts:
            self.left = facts[prefix] - sum([facts[one] for one in inner])

    def is_possible(self):
        """Whether there are places for as many points as are left."""
        return self.left is None or 0 <= self.left <= self.places

    def is_settled(self):
        """Whether one knows of each place if there is a point: nowhere, or everywhere."""
        return self.places == 0 or self.left in (0, self.places)

    def inside(self, prefix):
        """Those of the greatest known prefixes that are inside a prefix, ascending by place."""
        size = self.space.size(prefix)
        first = prefix[1] * size
        return self.inner[place_in(self.firsts, first):place_in(self.firsts, first + size)]

    def limits(self, places):
        """The least and the greatest number of points in so many of the places."""
        if self.left is None:
            return 0, places
        return max(0, self.left - (self.places - places)), min(self.left, places)

    def parts(self):
        """The fewest prefixes that have each place once, and no other."""
        found = []
        waiting = [self.prefix]
        while waiting:
            prefix = waiting.pop()
            inner = self.inside(prefix)
            if not inner:
                found.append(prefix)
            elif inner[0] != prefix:
                waiting.extend(halves_of(prefix))
        return found


def rests_of(space, facts):
    """The rests of all known prefixes and of the whole space, by their prefixes."""
    inner = {(0, 0): []}
    around = [(0, 0)]
    for prefix in _by_place(space, facts):
        while not is_inside(prefix, around[-1]):
            around.pop()
        if prefix != (0, 0):
            inner[around[-1]].append(prefix)
            inner[prefix] = []
            around.append(prefix)
    return {prefix: Rest(space, facts, prefix, inner[prefix]) for prefix in inner}


def _by_place(space, facts):
    """The known prefixes, ascending by place, of those that begin at one place the greatest first."""
    places = sorted([(number * space.size((length, number)), length) for length, number in facts])
    return [(length, place // space.size((length, 0))) for place, length in places]
