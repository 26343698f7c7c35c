"""Point [50]."""

import unittest

from finecloud.clouds import Cloud, cloud_of
from finecloud.errors import BadPiece
from finecloud.pieces import Knowledge
from finecloud.space import Space
from finecloud.texterrors import BadText
from finecloud.texts import read_cloud, read_facts, write_cloud, write_facts
from tests import plain

SIGNS = "0123 -+.x\n\t\r\xa0\xb2\u0661"
SPACES = [(dimensions, bits) for dimensions in (1, 2, 3) for bits in (1, 2, 3, 10)]

CLOUD = "space 2 3\npoint 0 0\npoint 0 7\npoint 1 0\npoint 3 2"
FACTS = "space 1 3\nfact 0 0 5\nfact 1 1 3\nfact 3 0 1\nfact 3 4 1"

# Numbers that are none, and a number of 16 figures, which is none, either.
NO_NUMBERS = ("", "x", "+1", "-1", "-0", "00", "01", "1.", "1e0", "0x1", "1_0", "1,", "\u0661", "\xb2", "\uff11", "1\t",
              "1\r", "None", "1" + "0" * 15, "0" * 16, "9" * 16, "9" * 6000)


def limits_of(name, words, dimensions, bits):
    """The least and the greatest number of each word behind the first one of a line, one by one."""
    if name == "space":
        yield 1, 3
        yield 1, 10
    elif name == "point":
        for _ in range(dimensions):
            yield 0, 2 ** bits - 1
    else:
        yield 0, dimensions * bits
        yield 0, 2 ** int(words[1]) - 1
        yield 0, 2 ** (dimensions * bits - int(words[1]))


def plain_fault(text, name):
    """The line and the word of the first word of a text that can't stand there; None if all can."""
    dimensions = bits = 0
    ahead = []
    for at, line in enumerate(text.split("\n")):
        words = line.split(" ")
        first = name if at > 0 else "space"
        if words[0] != first:
            return at, 0
        wrong = plain.wrong_word(words, limits_of(first, words, dimensions, bits))
        if wrong is not None:
            return at, wrong
        numbers = [int(word) for word in words[1:]]
        if at == 0:
            dimensions, bits = numbers
        else:
            thing = numbers[:2] if name == "fact" else numbers
            if thing <= ahead:
                return at, 1
            ahead = thing
    return None


def drawn_clouds():
    for dimensions, bits in SPACES:
        space = Space(dimensions, bits)
        for many in (0, 1, 2, 7, 60):
            if many <= 2 ** space.depth:
                yield cloud_of(space, plain.unlike(many, 80 + many, 2 ** space.depth))


def drawn_facts(cloud, many, seed):
    """Drawn facts of a cloud."""
    facts = {}
    for number in plain.unlike(many, seed, 2 ** 40):
        length = number % (cloud.space.depth + 1)
        prefix = length, (number >> 8) % 2 ** length
        facts[prefix] = cloud.count(prefix)
    return Knowledge(cloud.space, facts)


class Spoilt(unittest.TestCase):
    def wrong(self, line, word, read, text):
        with self.assertRaises(BadText) as caught:
            read(text)
        self.assertEqual((caught.exception.line, caught.exception.word), (line, word), text)

    def check_text(self, text, name):
        """Whether a text is read, or told as wrong, as plainly."""
        read = read_cloud if name == "point" else read_facts
        fault = plain_fault(text, name)
        if fault is not None:
            self.wrong(*fault, read, text)
        else:
            try:
                self.assertEqual((write_cloud if name == "point" else write_facts)(read(text)), text)
            except BadPiece:
                self.assertEqual(name, "fact")

    def spoil(self, text, name):
        words = text.split(" ")
        for place in range(len(text) + 1):
            for sign in SIGNS:
                self.check_text(text[:place] + sign + text[place + 1:], name)
                self.check_text(text[:place] + sign + text[place:], name)
            self.check_text(text[:place], name)
            self.check_text(text[place:], name)
            self.check_text(text[:place] + text[place + 1:], name)
        for place in range(len(words)):
            for word in NO_NUMBERS + ("space", "point", "fact", "0", "1", "2", "8", "11", "1023", "1024"):
                self.check_text(" ".join(words[:place] + [word] + words[place + 1:]), name)
                self.check_text(" ".join(words[:place] + [word] + words[place:]), name)

    def test_spoilt_texts(self):
        self.spoil(CLOUD, "point")
        self.spoil(FACTS, "fact")
        self.spoil("space 3 10\npoint 1023 0 0", "point")
        self.spoil("space 3 10\nfact 30 1073741823 1", "fact")
        self.spoil("space 1 1", "point")
        self.spoil("", "fact")

    def test_first_lines(self):
        for read in (read_cloud, read_facts):
            for text, word in (("", 0), (" ", 0), ("\n", 0), (" space 2 3", 0), ("Space 2 3", 0), ("point 0 0", 0),
                               ("spaces 2 3", 0), ("space\t2 3", 0), ("space", 1), ("space ", 1), ("space  2 3", 1),
                               ("space 2", 2), ("space 2 ", 2), ("space 2  3", 2), ("space 2 3 ", 3),
                               ("space 2 3 0", 3), ("space 2 3  ", 3), ("space 0 3", 1), ("space 4 3", 1),
                               ("space 2 0", 2), ("space 2 11", 2), ("space 4 11", 1), ("space 4", 1), ("space 0 x", 1),
                               ("space 2 x 0", 2), ("space 4 3 0", 1), ("\nspace 2 3", 0), ("space 2\n3", 2)):
                self.wrong(0, word, read, text)
            for word in NO_NUMBERS:
                self.wrong(0, 1, read, "space " + word + " 3")
                self.wrong(0, 2, read, "space 2 " + word)

    def test_lines_of_points(self):
        for line, word in (("", 0), (" ", 0), ("points 1 0", 0), (" point 1 0", 0), ("fact 0 0 1", 0), ("space 2 3", 0),
                           ("point", 1), ("point ", 1), ("point  1 0", 1), ("point 1", 2), ("point 1 ", 2),
                           ("point 1  0", 2), ("point 1 0 ", 3), ("point 1 0 0", 3), ("point 8 0", 1), ("point 1 8", 2),
                           ("point 8", 1), ("point 8 8", 1), ("point 8 0 0", 1), ("point 1 1000", 2),
                           # Right otherwise, but the point does not ascend.
                           ("point 0 0", 1), ("point 0 7", 1), ("point 0 6", 1),
                           # Not right otherwise.
                           ("point 0 8", 2), ("point 0", 2), ("point 0 0 0", 3), ("point 0 0 ", 3)):
            self.wrong(2, word, read_cloud, "space 2 3\npoint 0 7\n" + line)
            self.wrong(2, word, read_cloud, "space 2 3\npoint 0 7\n" + line + "\npoint 7 7")
            self.wrong(2, word, read_cloud, "space 2 3\npoint 0 7\n" + line + "\nnothing")
        for word in NO_NUMBERS:
            self.wrong(1, 1, read_cloud, "space 2 3\npoint " + word + " 3")
            self.wrong(1, 2, read_cloud, "space 2 3\npoint 2 " + word)
            self.wrong(1, 3, read_cloud, "space 2 3\npoint 2 0 " + word)

    def test_lines_of_facts(self):
        for line, word in (("", 0), ("facts 2 0 1", 0), ("point 0 0", 0), ("fact", 1), ("fact 2", 2), ("fact 2 0", 3),
                           ("fact 2 0 1 0", 4), ("fact 2 0 1 ", 4), ("fact  2 0 1", 1), ("fact 7 0 0", 1),
                           ("fact 2 4 1", 2), ("fact 2 3 17", 3), ("fact 6 0 2", 3), ("fact 6 64 1", 2),
                           ("fact 6 64 2", 2), ("fact 7", 1), ("fact 2 4", 2),
                           # Right otherwise, but the prefix does not ascend.
                           ("fact 1 1 0", 1), ("fact 1 0 0", 1), ("fact 0 0 3", 1), ("fact 1 1 32", 1),
                           # Not right otherwise.
                           ("fact 1 1 33", 3), ("fact 1 2 0", 2), ("fact 1 1", 3), ("fact 1 1 0 0", 4)):
            self.wrong(2, word, read_facts, "space 2 3\nfact 1 1 0\n" + line)
            self.wrong(2, word, read_facts, "space 2 3\nfact 1 1 0\n" + line + "\nfact 6 63 0")
            self.wrong(2, word, read_facts, "space 2 3\nfact 1 1 0\n" + line + "\nnothing")
        for word in NO_NUMBERS:
            self.wrong(1, 1, read_facts, "space 2 3\nfact " + word + " 0 0")
            self.wrong(1, 2, read_facts, "space 2 3\nfact 2 " + word + " 0")
            self.wrong(1, 3, read_facts, "space 2 3\nfact 2 0 " + word)
            self.wrong(1, 4, read_facts, "space 2 3\nfact 2 0 0 " + word)

    def test_line_feeds(self):
        self.wrong(5, 0, read_cloud, CLOUD + "\n")
        self.wrong(5, 0, read_facts, FACTS + "\n")
        self.wrong(1, 0, read_cloud, CLOUD.replace("\n", "\n\n"))
        self.wrong(1, 0, read_facts, FACTS.replace("\n", "\n\n"))
        self.wrong(0, 2, read_cloud, CLOUD.replace("\n", "\r\n"))
        self.wrong(1, 0, read_cloud, "space 2 3\n")
        self.wrong(1, 0, read_facts, "space 2 3\n")
        self.wrong(0, 0, read_facts, "\n" + FACTS)

    def test_numbers_of_15_figures_are_numbers(self):
        # Out of every space and above every count, they are wrong at their words as greater ones are.
        self.wrong(1, 2, read_cloud, "space 2 3\npoint 0 " + "9" * 15)
        self.wrong(1, 3, read_facts, "space 2 3\nfact 0 0 " + "9" * 15)
        self.wrong(1, 3, read_facts, "space 2 3\nfact 0 0 " + "9" * 16)

    def test_facts_that_no_cloud_has(self):
        text = "space 1 3\nfact 0 0 5\nfact 1 0 1\nfact 1 1 3"
        with self.assertRaises(BadPiece):
            read_facts(text)
        # What is wrong as a text is told first, wherever it stands.
        self.wrong(4, 3, read_facts, text + "\nfact 2 2 3")
        self.wrong(4, 0, read_facts, text + "\n")


class ThereAndBack(unittest.TestCase):
    def test_clouds(self):
        cloud = Cloud(Space(2, 3), [(3, 2), (0, 7), (1, 0), (0, 0)])
        self.assertEqual(write_cloud(cloud), CLOUD)
        self.assertEqual(read_cloud(CLOUD), cloud)
        self.assertEqual(write_cloud(Cloud(Space(3, 10), [(10, 0, 0), (9, 1023, 5)])),
                         "space 3 10\npoint 9 1023 5\npoint 10 0 0")

    def test_points_ascend_as_tuples(self):
        cloud = Cloud(Space(2, 1), [(0, 1), (1, 0), (0, 0), (1, 1)])
        self.assertEqual(write_cloud(cloud), "space 2 1\npoint 0 0\npoint 0 1\npoint 1 0\npoint 1 1")
        cloud = Cloud(Space(2, 4), [(9, 9), (10, 0), (2, 15), (3, 0)])
        self.assertEqual(write_cloud(cloud), "space 2 4\npoint 2 15\npoint 3 0\npoint 9 9\npoint 10 0")

    def test_facts(self):
        knowledge = Knowledge(Space(1, 3), {(3, 4): 1, (1, 1): 3, (0, 0): 5, (3, 0): 1})
        self.assertEqual(write_facts(knowledge), FACTS)
        self.assertEqual(read_facts(FACTS), knowledge)
        self.assertEqual(write_facts(Knowledge(Space(2, 2), {(4, 10): 0, (4, 9): 1})),
                         "space 2 2\nfact 4 9 1\nfact 4 10 0")

    def test_nothing_told(self):
        for dimensions, bits in SPACES:
            space = Space(dimensions, bits)
            text = "space %d %d" % (dimensions, bits)
            self.assertEqual((write_cloud(Cloud(space, ())), read_cloud(text)), (text, Cloud(space, ())))
            self.assertEqual((write_facts(Knowledge(space, {})), read_facts(text)), (text, Knowledge(space, {})))

    def test_drawn_clouds(self):
        for cloud in drawn_clouds():
            text = write_cloud(cloud)
            rows = ["space %d %d" % (cloud.space.dimensions, cloud.space.bits)]
            rows += ["point " + " ".join(map(str, point)) for point in sorted(cloud.points())]
            self.assertEqual(text, "\n".join(rows))
            self.assertIsNone(plain_fault(text, "point"))
            self.assertEqual(read_cloud(text), cloud)

    def test_drawn_facts(self):
        for cloud in drawn_clouds():
            for many in (1, 3, 20):
                knowledge = drawn_facts(cloud, many, many)
                text = write_facts(knowledge)
                rows = ["space %d %d" % (cloud.space.dimensions, cloud.space.bits)]
                rows += ["fact %d %d %d" % (length, number, count)
                         for (length, number), count in sorted(knowledge.facts.items())]
                self.assertEqual(text, "\n".join(rows))
                self.assertIsNone(plain_fault(text, "fact"))
                self.assertEqual(read_facts(text), knowledge)

    def test_full_prefixes(self):
        text = "space 3 10\nfact 0 0 1073741824\nfact 30 1073741823 1"
        self.assertEqual(write_facts(read_facts(text)), text)


if __name__ == "__main__":
    unittest.main()
