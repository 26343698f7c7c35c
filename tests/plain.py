"""What the document says, worked out in the plainest way: slow, and with nothing of the package."""

from fractions import Fraction
from itertools import combinations, product


def points(dimensions, bits):
    """All points, ascending by their woven numbers."""
    return sorted(product(range(2 ** bits), repeat=dimensions), key=lambda point: woven(point, bits))


def woven(point, bits):
    rows = [format(part, "0%db" % bits) for part in point]
    return int("".join(row[place] for place in range(bits) for row in rows), 2)


def rows(depth, many):
    """The rows of woven numbers of all clouds of so many points."""
    return [tuple(row) for row in combinations(range(2 ** depth), many)]


def counts(depth, row, fineness):
    """The counts of all prefixes of a length, 0s too."""
    found = [0] * 2 ** fineness
    for number in row:
        found[number >> depth - fineness] += 1
    return tuple(found)


def view(depth, row, fineness):
    found = counts(depth, row, fineness)
    return tuple((number, count) for number, count in enumerate(found) if count)


def ordered(depth, many):
    """All clouds in the order of their ranks."""
    return sorted(rows(depth, many), key=lambda row: [counts(depth, row, level) for level in range(depth + 1)])


def shares(depth, clouds, fineness, coarse):
    """Of the ordered clouds with a view: how many, and the next views with how many are ahead and how many have it."""
    there = [row for row in clouds if view(depth, row, fineness) == coarse]
    found = {}
    for at, row in enumerate(there):
        finer = view(depth, row, fineness + 1)
        low, share = found.get(finer, (at, 0))
        found[finer] = (low, share + 1)
    return len(there), found


def is_within(bits, low, share, every):
    number = int("0" + "".join(map(str, bits)), 2)
    part = Fraction(1, 2 ** len(bits))
    return Fraction(low, every) <= number * part and (number + 1) * part <= Fraction(low + share, every)


def level_code(low, share, every):
    length = 0
    while True:
        for bits in product((0, 1), repeat=length):
            if is_within(bits, low, share, every):
                return bits
        length += 1


def read(depth, clouds, bits):
    """(fineness, view, used), bit by bit; clouds are the ordered ones of so many points."""
    used = 0
    coarse = view(depth, clouds[0], 0)
    for fineness in range(depth):
        every, nexts = shares(depth, clouds, fineness, coarse)
        told = None
        for length in range(len(bits) - used + 1):
            for finer, (low, share) in nexts.items():
                if told is None and is_within(bits[used:used + length], low, share, every):
                    told = finer, length
            if told is not None:
                break
        if told is None:
            return fineness, coarse, used
        coarse = told[0]
        used += told[1]
    return depth, coarse, used


def unlike(many, seed, below):
    """So many unlike numbers below a number, without any order, the same each time."""
    found = {}
    number = seed
    while len(found) < many:
        number = (number * 6364136223846793005 + 1442695040888963407) % 2 ** 64
        found[(number >> 20) % below] = True
    return list(found)
