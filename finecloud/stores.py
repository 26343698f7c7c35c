"""Stores: versions as lines of a text, of which a fall leaves a beginning."""

from finecloud.numbers import is_between
from finecloud.storeerrors import BadCut
from finecloud.versions import History, rows_between, rows_edited
from finecloud.words import number_in

FIGURES = 18
NO_POINTS = "-"


def line_of(number, row):
    """The line of a version: its number, the one that it is made of, points cut, points added, its number again."""
    made_of, (cut, added) = row
    return f"{number} {made_of} {_word_of(cut)} {_word_of(added)} {number}"


def _word_of(points):
    """A row of points as a word."""
    if not points:
        return NO_POINTS
    return ";".join([",".join([str(part) for part in point]) for point in points])


def _row_of(line, number):
    """(number made of, (points cut, points added)) of the line of a version with a number; None if it is none."""
    words = line.split(" ")
    if len(words) != 5 or words[0] != str(number) or words[4] != str(number):
        return None
    made_of = number_in(words[1], FIGURES)
    cut = _points_of(words[2])
    added = _points_of(words[3])
    if made_of is None or made_of >= number or cut is None or added is None:
        return None
    return made_of, (cut, added)


def _points_of(word):
    """The ascending row of points that a word tells; None if it tells none."""
    if word == NO_POINTS:
        return ()
    points = []
    for part in word.split(";"):
        point = tuple([number_in(figures, FIGURES) for figures in part.split(",")])
        if None in point or points and point <= points[-1]:
            return None
        points.append(point)
    return tuple(points)


class Store:
    """A history that is written down line by line; what isn't settled may be lost by a fall."""

    def __init__(self, text):
        self.history = History()
        self.text = ""
        self.loose = ""
        lines = []
        # What stands behind the last line feed has no end, so it is no line.
        for line in text.split("\n")[:-1]:
            row = _row_of(line, self.history.many())
            if row is None:
                break
            made_of, edit = row
            self.history.put(made_of, rows_edited(self.history.points(made_of), edit))
            lines.append(line + "\n")
        self.text = "".join(lines)

    def put(self, number, points):
        """One more version, made of that with a number; its own number."""
        edit = rows_between(self.history.points(number), points)
        made = self.history.put(number, points)
        self.loose = self.loose + line_of(made, (number, edit)) + "\n"
        return made

    def sync(self):
        """All that is written is settled."""
        self.text = self.text + self.loose
        self.loose = ""

    def settled(self):
        """How many versions are settled."""
        return _versions_in(self.text)

    def fallen(self, cut):
        """The text behind a fall that leaves so many signs of what was loose."""
        if not is_between(cut, 0, len(self.loose)):
            raise BadCut(cut)
        return self.text + self.loose[:cut]


def versions_behind(store, cut):
    """How many versions come up behind a fall that leaves so many signs of what was loose."""
    return _versions_in(store.fallen(cut))


def _versions_in(text):
    """How many versions a store's text has: version 0, and those whose lines are there with their ends."""
    return text.count("\n") + 1
