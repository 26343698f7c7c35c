"""Texts: clouds and facts as lines of words, there and back."""

from finecloud.clouds import Cloud
from finecloud.numbers import power
from finecloud.pieces import Knowledge
from finecloud.texterrors import BadText
from finecloud.words import line_with, lines_of, space_of


def write_cloud(cloud):
    """A cloud as a text."""
    return _written(cloud.space, [line_with("point", point) for point in sorted(cloud.points())])


def write_facts(knowledge):
    """The facts of a knowledge as a text."""
    facts = sorted(knowledge.facts.items())
    return _written(knowledge.space, [line_with("fact", prefix + (count,)) for prefix, count in facts])


def _written(space, lines):
    """The line of a space, and lines behind it."""
    return "\n".join([line_with("space", (space.dimensions, space.bits))] + lines)


def read_cloud(text):
    """The cloud of a text."""
    lines = lines_of(text)
    space = space_of(lines[0])
    points = []
    for line in lines[1:]:
        line.take_word("point")
        point = line.take_point(space)
        line.take_end()
        _check_ascent(line, points, point)
        points.append(point)
    return Cloud(space, points)


def read_facts(text):
    """The knowledge with the facts of a text."""
    lines = lines_of(text)
    space = space_of(lines[0])
    prefixes = []
    facts = {}
    for line in lines[1:]:
        line.take_word("fact")
        length = line.take_number(0, space.depth)
        prefix = length, line.take_number(0, power(length) - 1)
        count = line.take_number(0, space.size(prefix))
        line.take_end()
        _check_ascent(line, prefixes, prefix)
        prefixes.append(prefix)
        facts[prefix] = count
    return Knowledge(space, facts)


def _check_ascent(line, row, thing):
    """What does not stand behind all of a row is wrong, at the word where it begins."""
    if row and thing <= row[-1]:
        raise BadText(line.at, 1)
