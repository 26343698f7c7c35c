"""Edits: which points of a cloud go, and which come."""

from finecloud.clouds import cloud_of
from finecloud.errors import BadCode, BadPoint
from finecloud.lots import lot_at, lot_number
from finecloud.numbers import bits_for, bits_of, choices, number_of, place_in


class Edit:
    """The woven numbers of the points that go, and of those that come."""

    def __init__(self, gone, come):
        self.gone = tuple(gone)
        self.come = tuple(come)

    def __eq__(self, other):
        return isinstance(other, Edit) and self.gone == other.gone and self.come == other.come


def edit_between(one, other):
    """What leads from a cloud to another one."""
    return Edit(_without(one.row, other.row), _without(other.row, one.row))


def edited(cloud, edit):
    """The cloud behind an edit."""
    there = {number: True for number in cloud.row}
    for number in edit.gone:
        if number not in there:
            raise BadPoint(cloud.space.point_of(number))
    for number in edit.come:
        if number in there:
            raise BadPoint(cloud.space.point_of(number))
    return cloud_of(cloud.space, _without(cloud.row, edit.gone) + list(edit.come))


def turned(edit):
    """What takes an edit back."""
    return Edit(edit.come, edit.gone)


def merged(cloud, one, other):
    """The edit of a cloud that does what two edits of it do."""
    # No look at the cloud is needed: what goes is there and what comes isn't, so nothing comes that goes.
    return Edit(sorted(set(one.gone) | set(other.gone)), sorted(set(one.come) | set(other.come)))


def edits_many(cloud, gone, come):
    """How many edits of a cloud let so many points go and so many come."""
    return choices(cloud.many(), gone) * choices(_free(cloud), come)


def edit_code(cloud, edit):
    """The bits of an edit of a cloud, among all that let as many points go and as many come."""
    gone = lot_number(cloud.many(), [place_in(cloud.row, number) for number in edit.gone])
    come = lot_number(_free(cloud), [number - place_in(cloud.row, number) for number in edit.come])
    number = gone * choices(_free(cloud), len(edit.come)) + come
    return bits_of(number, bits_for(edits_many(cloud, len(edit.gone), len(edit.come))))


def edit_of(cloud, gone, come, bits):
    """The edit of a cloud that lets so many points go and so many come, and has these bits."""
    every = edits_many(cloud, gone, come)
    if number_of(bits) >= every or len(bits) != bits_for(every):
        raise BadCode(len(bits))
    ahead, behind = divmod(number_of(bits), choices(_free(cloud), come))
    leaving = [cloud.row[place] for place in lot_at(cloud.many(), gone, ahead)]
    return Edit(leaving, _free_numbers(cloud, lot_at(_free(cloud), come, behind)))


def _without(row, other):
    """The numbers of a row that aren't in another one."""
    there = {number: True for number in other}
    return [number for number in row if number not in there]


def _free(cloud):
    """How many points of the space aren't in a cloud."""
    return cloud.space.size((0, 0)) - cloud.many()


def _free_numbers(cloud, places):
    """The numbers that stand at ascending places among those that aren't in a cloud."""
    numbers = []
    passed = 0
    for place in places:
        while passed < cloud.many() and cloud.row[passed] <= place + passed:
            passed = passed + 1
        numbers.append(place + passed)
    return numbers
