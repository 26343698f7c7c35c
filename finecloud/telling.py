"""Telling: the fewest facts that let a viewer know all counts of a fineness that meet a box."""

from finecloud.balls import halves_of
from finecloud.errors import BadPoint
from finecloud.numbers import is_between

# The ways in which what is not told of a prefix can be. Where nothing is left, it is so in all of them.
EMPTY = 0
FULL = 1
ONE_WANTED = 2
NOTHING = 3
UNWANTED = 4


def is_enough(knowledge, box, fineness):
    """Whether all counts of prefixes of this length that meet a box are known."""
    return all([rest.is_settled() or _is_plain(rest, box, fineness) for rest in knowledge.rests.values()])


def _is_plain(rest, box, fineness):
    """Whether no place of a rest is wanted, or all are of one wanted prefix and the points of them are known."""
    cells = sorted({_coarser(part, fineness) for part in rest.parts()})
    if not any([box.room(cell) for cell in cells]):
        return True
    return rest.left is not None and len(cells) == 1 and cells[0][0] == fineness


def _coarser(prefix, fineness):
    """A prefix cut to the fineness; shorter ones stay as they are."""
    length, number = prefix
    if length <= fineness:
        return prefix
    return fineness, number >> length - fineness


def fewest_facts(cloud, knowledge, box, fineness):
    """The fewest prefixes whose counts, told more, let a viewer who knows this of a cloud know all wanted ones."""
    if not is_between(fineness, 0, cloud.space.depth):
        raise BadPoint(fineness)
    lots = Telling(cloud, knowledge, box, fineness).lots((0, 0))
    # As long as nobody told how many points the whole space has, nothing is known of what is left of it.
    return tuple(sorted(_fewest([lots[NOTHING], lots[UNWANTED]])))


class Telling:
    """Who has a cloud, and works out what to tell to a viewer."""

    def __init__(self, cloud, knowledge, box, fineness):
        self.cloud = cloud
        self.knowledge = knowledge
        self.box = box
        self.fineness = fineness

    def lots(self, prefix):
        """For each way, the fewest facts inside a prefix, or of it, that make so what is not told of it."""
        lots = self._lots_within(prefix)
        told = _fewest(lots)
        if prefix not in self.knowledge.facts:
            told = told + (prefix,)
            return [_fewest([lot, told]) for lot in lots]
        return [told for _ in lots]

    def _lots_within(self, prefix):
        """The same by facts inside the prefix alone; None where there are none, or not as few as by one of it."""
        space = self.cloud.space
        inner = self.knowledge.inside(prefix)
        points = self.cloud.count(prefix) - sum([self.knowledge.facts[one] for one in inner])
        places = space.size(prefix) - sum([space.size(one) for one in inner])
        is_wanted = self.box.room(prefix) > 0
        is_fine = prefix[0] == self.fineness
        if not is_fine and (inner or is_wanted and 0 < points < places):
            return self._lots_of_halves(prefix)
        is_told = places == 0
        ways = (points == 0, points == places, is_told or is_wanted and is_fine, is_told, is_told or not is_wanted)
        return [() if is_so else None for is_so in ways]

    def _lots_of_halves(self, prefix):
        """The sums over both halves of a prefix."""
        first, second = [self.lots(half) for half in halves_of(prefix)]
        lots = [lot + other for lot, other in zip(first, second)]
        # Both halves together have more than one wanted prefix.
        lots[ONE_WANTED] = _fewest([first[ONE_WANTED] + second[NOTHING], first[NOTHING] + second[ONE_WANTED]])
        return lots


def _fewest(lots):
    """The lot of the fewest facts; None is no lot."""
    return min([lot for lot in lots if lot is not None], key=len)
