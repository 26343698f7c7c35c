"""Clouds bit by bit: a code for each level, and reading as much as bits tell."""

from finecloud.clouds import cloud_of
from finecloud.errors import BadCode
from finecloud.levels import Level, first_view, is_so_many, level_place
from finecloud.numbers import bits_for, bits_of, number_of, parts_up


def code_of(cloud):
    """The codes of all levels of a cloud."""
    return tuple(_codes(cloud, cloud.space.depth))


def beginning(cloud, fineness):
    """The bits of the levels up to a fineness, one behind the other."""
    return tuple([bit for code in _codes(cloud, fineness) for bit in code])


def read_code(space, many, bits):
    """(fineness, view, used): the finest view that bits tell, and how many of them it takes."""
    if not is_so_many(space, many):
        raise BadCode(0)
    view = first_view(many)
    used = 0
    for fineness in range(space.depth):
        finer, length = _read_level(Level(space, fineness, view), bits[used:])
        if finer is None:
            return fineness, view, used
        view = finer
        used = used + length
    return space.depth, view, used


def check_whole(space, many, bits):
    """The finest view, if the bits are just the code of a cloud."""
    fineness, view, used = read_code(space, many, bits)
    if fineness < space.depth:
        raise BadCode(used)
    cloud = cloud_of(space, [number for number, _ in view])
    # Other bits may tell each level, too: within a share there are more intervals than its first shortest one.
    if beginning(cloud, fineness) != tuple(bits):
        raise BadCode(used)
    return view


def _codes(cloud, fineness):
    return [_level_code(cloud, level) for level in range(min(fineness, cloud.space.depth))]


def _level_code(cloud, fineness):
    """The first one of the shortest rows of bits whose interval lies within the share of the cloud's next view."""
    low, share, every = level_place(cloud, fineness)
    # An interval that is longer than the share can't lie within it: so shorter rows need no look.
    length = bits_for(parts_up(every, share))
    while True:
        number = parts_up(low << length, every)
        if _is_within(number, length, low, share, every):
            return bits_of(number, length)
        length = length + 1


def _is_within(number, length, low, share, every):
    """Whether the interval of so many bits that write a number lies within a share behind low others."""
    return low << length <= number * every and (number + 1) * every <= (low + share) << length


def _read_level(level, bits):
    """(next view, how many bits tell it); both are None if the bits don't tell one."""
    # No level code is longer than this; bits that no code has may need more, along the edge of a share.
    enough = bits_for(level.cells.ways) + 2
    finer, length = _read_part(level, bits[:enough])
    if finer is None and len(bits) > enough:
        return _read_part(level, bits)
    return finer, length


def _read_part(level, bits):
    """As _read_level, with a look at all of the bits."""
    # Only the share that has the lower end of their interval can have the whole of it.
    every = level.cells.ways
    number = number_of(bits)
    finer, low, share = level.found(number * every >> len(bits))
    if not _is_within(number, len(bits), low, share, every):
        return None, None
    least = 0
    most = len(bits)
    while least < most:
        middle = (least + most) // 2
        if _is_within(number >> len(bits) - middle, middle, low, share, every):
            most = middle
        else:
            least = middle + 1
    return finer, least
