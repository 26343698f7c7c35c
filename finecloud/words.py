"""Words: lines of a text, read word by word, and written."""

from finecloud.space import MOST_BITS, MOST_DIMENSIONS, Space
from finecloud.texterrors import BadText

FIGURES = 15


def number_in(word, figures):
    """The number that a word writes without needless 0s and signs, in at most so many figures; None if it doesn't."""
    if len(word) > figures or not word.isascii() or not word.isdigit():
        return None
    if word[0] == "0" and word != "0":
        return None
    return int(word)


def line_with(word, numbers):
    """A word and numbers behind it, with one blank between."""
    return " ".join([word] + [str(number) for number in numbers])


class Line:
    """A line of a text, whose words are taken one by one; the first one that can't stand there is told as wrong."""

    def __init__(self, at, text):
        self.at = at
        # Two blanks side by side, or one at an end, have a word without signs beside them, which stands nowhere.
        self.words = text.split(" ")
        self.taken = 0

    def take(self):
        """The next word."""
        if self.taken == len(self.words):
            raise BadText(self.at, self.taken)
        self.taken = self.taken + 1
        return self.words[self.taken - 1]

    def take_word(self, word):
        """The next word, which must be this one."""
        if self.take() != word:
            raise BadText(self.at, self.taken - 1)

    def take_number(self, least, most):
        """The next word as a number from least to most."""
        number = number_in(self.take(), FIGURES)
        if number is None or not least <= number <= most:
            raise BadText(self.at, self.taken - 1)
        return number

    def take_point(self, space):
        """The next words as a point of a space."""
        return tuple([self.take_number(0, space.side - 1) for _ in range(space.dimensions)])

    def take_end(self):
        """No word is left."""
        if self.taken < len(self.words):
            raise BadText(self.at, self.taken)


def lines_of(text):
    """The lines of a text; there is always one."""
    return [Line(at, line) for at, line in enumerate(text.split("\n"))]


def space_of(line):
    """The space that a line tells."""
    line.take_word("space")
    dimensions = line.take_number(1, MOST_DIMENSIONS)
    bits = line.take_number(1, MOST_BITS)
    line.take_end()
    return Space(dimensions, bits)
