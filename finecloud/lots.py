"""Lots: so many of a row of places, numbered."""

from finecloud.levels import Split
from finecloud.numbers import choices, place_in


def lot_number(many, places):
    """The number of an ascending lot among all lots of as many out of so many places."""
    if len(places) in (0, many):
        return 0
    half = many // 2
    split = Split(half, many - half, len(places))
    split.go_to(place_in(places, half))
    ahead = lot_number(half, places[:split.first])
    behind = lot_number(many - half, [place - half for place in places[split.first:]])
    return split.low + ahead * choices(many - half, len(places) - split.first) + behind


def lot_at(many, some, number):
    """The ascending lot of some out of so many places with a number."""
    if some in (0, many):
        return list(range(some))
    half = many // 2
    split = Split(half, many - half, some)
    split.go_over(number)
    ahead, behind = divmod(number - split.low, choices(many - half, some - split.first))
    second = lot_at(many - half, some - split.first, behind)
    return lot_at(half, split.first, ahead) + [half + place for place in second]
