"""Shapes: rows of points, which motions bring to one another."""

from finecloud.motions import shifted_by, turned_by, turns_of


def settled(points):
    """(row, shift): the points shifted so that the least coordinate of each axis is 0, ascending, and the shift."""
    shift = tuple([-min(parts) for parts in zip(*points)])
    return tuple(sorted([shifted_by(point, shift) for point in points])), shift


def form_of(points, are_mirrored):
    """The least row to which points can be turned and settled."""
    rows = [settled(row)[0] for _, row in _turned_rows(points, are_mirrored)]
    return min(rows, default=())


def _turned_rows(points, are_mirrored):
    """The pairs of each turn let and the points turned by it, ascending; none without points."""
    if not points:
        return []
    turns = turns_of(len(points[0]), are_mirrored)
    return [(turn, [turned_by(point, turn) for point in points]) for turn in turns]


def are_alike(one, other, are_mirrored):
    """Whether some motion brings the points of one row just to those of the other."""
    return form_of(one, are_mirrored) == form_of(other, are_mirrored)


def motions_to(one, other, are_mirrored):
    """All motions that bring the points of one row just to those of the other, ascending."""
    target, shift = settled(other)
    motions = []
    for turn, row in _turned_rows(one, are_mirrored):
        form, there = settled(row)
        if form == target:
            motions.append((turn, _difference(there, shift)))
    return motions


def places_in(shape, points, are_mirrored):
    """All motions that bring each point of a shape to one of the points, ascending."""
    there = {point: True for point in points}
    motions = []
    for turn, row in _turned_rows(shape, are_mirrored):
        for point in points:
            shift = _difference(point, row[0])
            # Points of fewer dimensions are none that a motion brings these to.
            if len(shift) == len(row[0]) and _is_within(row, shift, there):
                motions.append((turn, shift))
    return sorted(motions)


def _is_within(row, shift, there):
    """Whether all points of a row are there when they are shifted."""
    for point in row:
        if shifted_by(point, shift) not in there:
            return False
    return True


def _difference(point, other):
    """The shift that leads from the other point to a point."""
    return tuple([part - less for part, less in zip(point, other)])
