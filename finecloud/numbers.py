"""Numbers: powers of 2, choices, and numbers as bits."""

from math import comb


def is_between(thing, least, most):
    """Whether a thing is an integer from least to most (True and False are none)."""
    return isinstance(thing, int) and not isinstance(thing, bool) and least <= thing <= most


def power(times):
    """2, so many times by itself; 0 for times below 0."""
    return shifted(1, times)


def shifted(number, times):
    """A number doubled so many times; for times below 0 halved as many times, and rounded down."""
    if times < 0:
        return number >> -times
    return number << times


def parts_up(many, part):
    """How many parts it takes to hold so many."""
    return -(-many // part)


def choices(many, some):
    """In how many ways some are chosen out of many."""
    if some < 0 or some > many:
        return 0
    return comb(many, some)


def bits_for(many):
    """The least b with many at most 2 to the b."""
    return (many - 1).bit_length()


def bits_of(number, many):
    """A number below 2 to the many as so many bits, the greatest place first; of other numbers the last bits."""
    # The text of the number 0 is one sign long, but no bits at all write it, too.
    if many <= 0:
        return ()
    text = f"{number & power(many) - 1:b}"
    return tuple([int(sign) for sign in text.zfill(many)])


def number_of(bits):
    """The number that bits write."""
    return int("0" + "".join([str(bit) for bit in bits]), 2)


def place_in(row, number):
    """How many numbers of an ascending row are less than a number."""
    low = 0
    high = len(row)
    while low < high:
        middle = (low + high) // 2
        if row[middle] < number:
            low = middle + 1
        else:
            high = middle
    return low
