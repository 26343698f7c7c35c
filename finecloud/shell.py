"""A shell: scripts of commands about a cloud at hand, its versions, and the lines that they bring."""

from finecloud.asking import count_in, nearest, points_in
from finecloud.clouds import Cloud
from finecloud.errors import BadPoint
from finecloud.space import Box
from finecloud.texterrors import BadText
from finecloud.versions import History
from finecloud.words import line_with, lines_of, space_of


class Desk:
    """A cloud at hand, the version at hand, and all versions."""

    def __init__(self, space):
        self.space = space
        self.history = History()
        self.number = 0
        self.cloud = Cloud(space, self.history.points(0))


def _put(desk, line):
    point = line.take_point(desk.space)
    line.take_end()
    if desk.cloud.has(point):
        return ["same"]
    desk.cloud = desk.cloud.added(point)
    return []


def _take(desk, line):
    point = line.take_point(desk.space)
    line.take_end()
    if not desk.cloud.has(point):
        return ["same"]
    desk.cloud = desk.cloud.removed(point)
    return []


def _count(desk, line):
    return [line_with("count", (count_in(desk.cloud, _box_of(desk, line)),))]


def _list(desk, line):
    return [line_with("point", point) for point in points_in(desk.cloud, _box_of(desk, line))]


def _box_of(desk, line):
    """The box between two corners, which are the rest of a line."""
    lows = line.take_point(desk.space)
    highs = line.take_point(desk.space)
    line.take_end()
    try:
        return Box(desk.space, lows, highs)
    except BadPoint:
        raise BadText(line.at, 1 + len(lows)) from None


def _near(desk, line):
    many = line.take_number(0, desk.space.size((0, 0)))
    centre = line.take_point(desk.space)
    line.take_end()
    rows, _ = nearest(desk.cloud, centre, many)
    return [line_with("near", (square,) + point) for square, point in rows]


def _keep(desk, line):
    line.take_end()
    desk.number = desk.history.put(desk.number, sorted(desk.cloud.points()))
    return [line_with("version", (desk.number,))]


def _go(desk, line):
    number = line.take_number(0, desk.history.many() - 1)
    line.take_end()
    desk.number = number
    desk.cloud = Cloud(desk.space, desk.history.points(number))
    return []


COMMANDS = {
    "put": _put,
    "take": _take,
    "count": _count,
    "list": _list,
    "near": _near,
    "keep": _keep,
    "go": _go,
}


def run_script(text):
    """The lines that a script brings."""
    lines = lines_of(text)
    desk = Desk(space_of(lines[0]))
    brought = []
    for line in lines[1:]:
        action = COMMANDS.get(line.take())
        if action is None:
            raise BadText(line.at, 0)
        brought.extend(action(desk, line))
    return brought
