"""Levels: in how many ways, and in which order, the cells of a view split into those of the next one."""

from finecloud.numbers import choices, power


class Split:
    """Points split on a left and a right room: how many the left gets, in how many ways, how many ways are ahead."""

    def __init__(self, left, right, total):
        self.left = left
        self.right = right
        self.total = total
        self.first = max(0, total - right)
        self.low = 0
        self.share = choices(left, self.first) * choices(right, total - self.first)

    def go_to(self, first):
        """To the split that gives so many points to the left room."""
        while self.first < first:
            self._go_on()

    def go_over(self, number):
        """To the split that the way with a number has."""
        while self.low + self.share <= number:
            self._go_on()

    def _go_on(self):
        self.low = self.low + self.share
        more = (self.left - self.first) * (self.total - self.first)
        self.first = self.first + 1
        less = self.first * (self.right - self.total + self.first)
        self.share = self.share * more // less


class Cells:
    """Cells of a size side by side, split at once: where two splits differ first, less in the first half is ahead.

    The ways of the cells multiply. They are joined two by two, for great numbers multiply fastest beside as great ones.
    """

    def __init__(self, half, totals):
        self.half = half
        self.totals = totals
        self.middle = len(totals) // 2
        if self.middle:
            self.left = Cells(half, totals[:self.middle])
            self.right = Cells(half, totals[self.middle:])
            self.ways = self.left.ways * self.right.ways
        else:
            # No cells at all split as one without points does: in one way.
            self.ways = choices(2 * half, sum(totals))

    def place(self, firsts):
        """(low, share): how many ways are ahead of a split, and how many ways have it."""
        if not self.middle:
            split = Split(self.half, self.half, sum(self.totals))
            split.go_to(sum(firsts))
            return split.low, split.share
        low, share = self.left.place(firsts[:self.middle])
        right_low, right_share = self.right.place(firsts[self.middle:])
        return low * self.right.ways + share * right_low, share * right_share

    def found(self, number):
        """(firsts, low, share) of the split that the way with a number has."""
        if not self.middle:
            split = Split(self.half, self.half, sum(self.totals))
            split.go_over(number)
            return [split.first for _ in self.totals], split.low, split.share
        others = self.right.ways
        firsts, low, share = self.left.found(number // others)
        right_firsts, right_low, right_share = self.right.found((number - low * others) // share)
        return firsts + right_firsts, low * others + share * right_low, share * right_share


class Level:
    """The step from a view to the next ones. Full cells split in one way only, so they are left out of the work."""

    def __init__(self, space, fineness, view):
        self.coarse = view
        self.half = power(space.depth - fineness - 1)
        self.unsure = [(number, total) for number, total in view if total < 2 * self.half]
        self.cells = Cells(self.half, [total for _, total in self.unsure])

    def place(self, finer):
        """(low, share): how many clouds of the view are ahead of a next view, and how many have it."""
        counts = {}
        for number, total in finer:
            counts[number] = total
        return self.cells.place([counts.get(2 * number, 0) for number, _ in self.unsure])

    def found(self, number):
        """(next view, low, share) of the cloud with this rank among those of the view."""
        firsts, low, share = self.cells.found(number)
        counts = {}
        for (cell, _), first in zip(self.unsure, firsts):
            counts[cell] = first
        finer = []
        for cell, total in self.coarse:
            first = counts.get(cell, self.half)
            finer.append((2 * cell, first))
            finer.append((2 * cell + 1, total - first))
        return tuple([pair for pair in finer if pair[1] > 0]), low, share


def first_view(many):
    """The view at fineness 0."""
    if many == 0:
        return ()
    return ((0, many),)


def is_so_many(space, many):
    """Whether there are clouds of so many points."""
    return 0 <= many <= space.size((0, 0))


def level_place(cloud, fineness):
    """(low, share, all): where a cloud's next view lies among all clouds of its view at a fineness."""
    level = Level(cloud.space, fineness, cloud.view(fineness))
    low, share = level.place(cloud.view(fineness + 1))
    return low, share, level.cells.ways
