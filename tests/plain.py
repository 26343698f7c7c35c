"""What the document says, worked out in the plainest way: slow, and with nothing of the package."""

import re
from fractions import Fraction
from itertools import combinations, product

NUMBER = re.compile("0|[1-9][0-9]{0,14}")


def points(dimensions, bits):
    """All points, ascending by their woven numbers."""
    return sorted(product(range(2 ** bits), repeat=dimensions), key=lambda point: woven(point, bits))


def woven(point, bits):
    rows = [format(part, "0%db" % bits) for part in point]
    return int("".join(row[place] for place in range(bits) for row in rows), 2)


def rows(depth, many):
    """The rows of woven numbers of all clouds of so many points."""
    return [tuple(row) for row in combinations(range(2 ** depth), many)]


def counts(depth, row, fineness):
    """The counts of all prefixes of a length, 0s too."""
    found = [0] * 2 ** fineness
    for number in row:
        found[number >> depth - fineness] += 1
    return tuple(found)


def view(depth, row, fineness):
    found = counts(depth, row, fineness)
    return tuple((number, count) for number, count in enumerate(found) if count)


def ordered(depth, many):
    """All clouds in the order of their ranks."""
    return sorted(rows(depth, many), key=lambda row: [counts(depth, row, level) for level in range(depth + 1)])


def shares(depth, clouds, fineness, coarse):
    """Of the ordered clouds with a view: how many, and the next views with how many are ahead and how many have it."""
    there = [row for row in clouds if view(depth, row, fineness) == coarse]
    found = {}
    for at, row in enumerate(there):
        finer = view(depth, row, fineness + 1)
        low, share = found.get(finer, (at, 0))
        found[finer] = (low, share + 1)
    return len(there), found


def is_within(bits, low, share, every):
    number = int("0" + "".join(map(str, bits)), 2)
    part = Fraction(1, 2 ** len(bits))
    return Fraction(low, every) <= number * part and (number + 1) * part <= Fraction(low + share, every)


def level_code(low, share, every):
    length = 0
    while True:
        for bits in product((0, 1), repeat=length):
            if is_within(bits, low, share, every):
                return bits
        length += 1


def read(depth, clouds, bits):
    """(fineness, view, used), bit by bit; clouds are the ordered ones of so many points."""
    used = 0
    coarse = view(depth, clouds[0], 0)
    for fineness in range(depth):
        every, nexts = shares(depth, clouds, fineness, coarse)
        told = None
        for length in range(len(bits) - used + 1):
            for finer, (low, share) in nexts.items():
                if told is None and is_within(bits[used:used + length], low, share, every):
                    told = finer, length
            if told is not None:
                break
        if told is None:
            return fineness, coarse, used
        coarse = told[0]
        used += told[1]
    return depth, coarse, used


def unlike(many, seed, below):
    """So many unlike numbers below a number, without any order, the same each time."""
    found = {}
    number = seed
    while len(found) < many:
        number = (number * 6364136223846793005 + 1442695040888963407) % 2 ** 64
        found[(number >> 20) % below] = True
    return list(found)


def some(many, seed, things):
    """So many of some things (all, if there are fewer), without any order, the same each time."""
    return [things[place] for place in unlike(min(many, len(things)), seed, len(things))]


def prefixes(depth):
    return [(length, number) for length in range(depth + 1) for number in range(2 ** length)]


def boxes(dimensions, bits):
    """The corners of all boxes."""
    every = points(dimensions, bits)
    return [(lows, highs) for lows, highs in product(every, every)
            if all(low <= high for low, high in zip(lows, highs))]


def square(one, other):
    return sum((part - beside) ** 2 for part, beside in zip(one, other))


def wrong_word(words, limits):
    """The place of the first word behind that at 0 that is no number within its limits; lacking ones and ones too
    much are none, either. None if all are right."""
    place = 0
    for place, (least, most) in enumerate(limits, 1):
        if place == len(words) or not NUMBER.fullmatch(words[place]) or not least <= int(words[place]) <= most:
            return place
    return place + 1 if len(words) > place + 1 else None


class AllClouds:
    """All clouds of a small space: of a cloud's number the bits are its points, of a lot's number its clouds."""

    def __init__(self, depth):
        self.depth = depth
        self.every = 2 ** 2 ** 2 ** depth - 1
        self.prefixes = prefixes(depth)
        self.points = {}
        self.kept = {}
        for length, number in self.prefixes:
            size = 2 ** (depth - length)
            self.points[length, number] = (2 ** size - 1) << number * size

    def numbers(self):
        return range(2 ** 2 ** self.depth)

    def row(self, cloud):
        return tuple(number for number in range(2 ** self.depth) if cloud >> number & 1)

    def count(self, cloud, prefix):
        return bin(cloud & self.points[prefix]).count("1")

    def having(self, prefix, count):
        """The lot of the clouds with this count."""
        if prefix not in self.kept:
            lots = [0] * (2 ** self.depth + 1)
            for cloud in self.numbers():
                lots[self.count(cloud, prefix)] += 2 ** cloud
            self.kept[prefix] = lots
        return self.kept[prefix][count]

    def lot(self, facts):
        """The lot of the clouds that have all facts."""
        lot = self.every
        for prefix, count in facts.items():
            lot &= self.having(prefix, count)
        return lot

    def of_lot(self, lot):
        return [cloud for cloud in self.numbers() if lot >> cloud & 1]

    def known(self, lot, prefix):
        """The count that all clouds of a lot have, if they agree."""
        cloud = lot.bit_length() - 1
        count = self.count(cloud, prefix)
        return count if lot & ~self.having(prefix, count) == 0 else None

    def told(self, cloud, prefixes):
        """The lot of the clouds that have the counts that a cloud has."""
        return self.lot({prefix: self.count(cloud, prefix) for prefix in prefixes})

    def mixed(self, many, seed):
        """So many facts that one cloud has, each of which may be one off."""
        cloud, *places = unlike(many + 1, seed, 2 ** 20)
        found = {}
        for place in places:
            prefix = self.prefixes[place % len(self.prefixes)]
            found[prefix] = self.count(cloud & 2 ** 2 ** self.depth - 1, prefix) + (place // 64 % 4 == 0)
        return found
