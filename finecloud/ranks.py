"""Ranks: as many numbers as clouds of so many points."""

from finecloud.clouds import cloud_of
from finecloud.errors import BadCode
from finecloud.levels import Level, first_view, level_place
from finecloud.numbers import bits_for, bits_of, choices, number_of, power


def all_clouds(space, many):
    """How many clouds of so many points there are."""
    return choices(power(space.depth), many)


def completions(space, fineness, view):
    """How many clouds have a view: each prefix is filled by itself."""
    size = power(max(0, space.depth - fineness))
    return multiplied([choices(size, count) for _, count in view])


def multiplied(numbers):
    """The product of numbers, halves first, for great numbers multiply fastest beside others as great."""
    if not numbers:
        return 1
    if len(numbers) == 1:
        return numbers[0]
    middle = len(numbers) // 2
    return multiplied(numbers[:middle]) * multiplied(numbers[middle:])


def rank(cloud):
    """How many clouds of as many points are ahead of a cloud."""
    # Those that differ first at a level are ahead by that level alone, for the clouds of a view stand side by side.
    lows = [level_place(cloud, fineness)[0] for fineness in range(cloud.space.depth)]
    return sum(lows)


def cloud_at(space, many, number):
    """The cloud with a rank."""
    if not 0 <= number < all_clouds(space, many):
        raise BadCode(0)
    view = first_view(many)
    for fineness in range(space.depth):
        view, low, _ = Level(space, fineness, view).found(number)
        number = number - low
    return cloud_of(space, [place for place, _ in view])


def whole_code(cloud):
    """The rank of a cloud in as many bits as all ranks need."""
    return bits_of(rank(cloud), bits_for(all_clouds(cloud.space, cloud.many())))


def whole_of(space, many, bits):
    """The cloud with a whole code."""
    every = all_clouds(space, many)
    if number_of(bits) >= every or len(bits) != bits_for(every):
        raise BadCode(len(bits))
    return cloud_at(space, many, number_of(bits))
