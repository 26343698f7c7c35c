"""Beating the worth: of any code, how many clouds it can tell in fewer bits."""

from finecloud.levels import first_view, is_so_many
from finecloud.numbers import power, shifted
from finecloud.ranks import all_clouds, completions


def is_code(lengths):
    """Whether there is a code with these lengths of words: whether the sum of 2^-length is at most 1."""
    row = sorted(list(lengths.values()), reverse=True)
    # A word of a length below 0 is more than 1 alone.
    if row and row[-1] < 0:
        return False
    # The sum is told in words of the length at hand, from the longest one up. Rounding up does no harm:
    # what the shorter words leave of 1 is a whole number of words of that length.
    words = 0
    at = max(row, default=0)
    for length in row:
        words = _halved_up(words, at - length) + 1
        at = length
    return _halved_up(words, at) <= 1


def _halved_up(number, times):
    """A number halved so many times, then rounded up."""
    return -(-number >> times)


def told_shorter(space, many, fineness, lengths, fewer):
    """How many clouds have a view whose length is so many bits or more below its worth."""
    every = all_clouds(space, many)
    told = 0
    for view, length in lengths.items():
        clouds = completions(space, fineness, view)
        if clouds <= shifted(every, -length - fewer):
            told = told + clouds
    return told


def views_of(space, many, fineness):
    """All views of clouds of so many points, ascending."""
    if not is_so_many(space, many):
        return []
    views = [first_view(many)]
    for length in range(min(fineness, space.depth)):
        half = power(space.depth - length - 1)
        views = [finer for view in views for finer in _next_views(half, view)]
    return sorted(views)


def _next_views(half, view):
    """All views that come next behind a view, with so many points in half of each prefix."""
    rows = [()]
    for number, count in view:
        ends = [_halves(number, first, count) for first in range(max(0, count - half), min(half, count) + 1)]
        rows = [row + end for row in rows for end in ends]
    return rows


def _halves(number, first, count):
    """The pairs of both halves of a prefix, those with 0 left out."""
    pairs = ((2 * number, first), (2 * number + 1, count - first))
    return tuple([pair for pair in pairs if pair[1] > 0])
