"""Point [51]."""

import unittest

from finecloud.shell import run_script
from finecloud.texterrors import BadText
from tests import plain

NO_NUMBERS = ("", "x", "+1", "-1", "-0", "00", "01", "1.", "1_0", "\u0661", "\xb2", "1\t", "1\r", "1" + "0" * 15,
              "9" * 16, "9" * 6000)


class PlainDesk:
    """A plain row of points, and the rows that were kept."""

    def __init__(self, dimensions, bits):
        self.dimensions = dimensions
        self.side = 2 ** bits
        self.row = []
        self.kept = [[]]

    def run(self, words):
        """What a right command brings."""
        numbers = [int(word) for word in words[1:]]
        return getattr(self, words[0])(*numbers)

    def put(self, *point):
        if point in self.row:
            return ["same"]
        self.row.append(point)
        return []

    def take(self, *point):
        if point not in self.row:
            return ["same"]
        self.row.remove(point)
        return []

    def within(self, corners):
        lows, highs = corners[:self.dimensions], corners[self.dimensions:]
        return sorted(point for point in self.row
                      if all(low <= part <= high for low, part, high in zip(lows, point, highs)))

    def count(self, *corners):
        return ["count %d" % len(self.within(corners))]

    def list(self, *corners):
        return ["point " + " ".join(map(str, point)) for point in self.within(corners)]

    def near(self, many, *centre):
        rows = sorted((plain.square(centre, point), point) for point in self.row)[:many]
        return ["near %d " % square + " ".join(map(str, point)) for square, point in rows]

    def keep(self):
        self.kept.append(list(self.row))
        return ["version %d" % (len(self.kept) - 1)]

    def go(self, number):
        self.row = list(self.kept[number])
        return []


def limits_of(word, dimensions, bits, kept):
    """The least and the greatest number of each word behind the first one of a line; None of no command."""
    point = [(0, 2 ** bits - 1)] * dimensions
    return {"put": point, "take": point, "count": point + point, "list": point + point, "keep": [],
            "near": [(0, 2 ** (dimensions * bits))] + point, "go": [(0, kept)]}.get(word)


def plain_fault(text):
    """The line and the word of the first word of a script that can't stand there; None if all can."""
    dimensions = bits = kept = 0
    for at, line in enumerate(text.split("\n")):
        words = line.split(" ")
        limits = limits_of(words[0], dimensions, bits, kept)
        if at == 0:
            limits = [(1, 3), (1, 10)] if words[0] == "space" else None
        if limits is None:
            return at, 0
        wrong = plain.wrong_word(words, limits)
        if wrong is not None:
            return at, wrong
        numbers = [int(word) for word in words[1:]]
        if at == 0:
            dimensions, bits = numbers
        elif words[0] in ("count", "list"):
            if any(low > high for low, high in zip(numbers[:dimensions], numbers[dimensions:])):
                return at, dimensions + 1
        kept += words[0] == "keep"
    return None


def drawn_line(desk, number):
    """A drawn command that is right."""
    def point(place, side):
        return tuple((number >> place + 10 * axis) % side for axis in range(desk.dimensions))

    kind, side = number % 10, min(desk.side, 4)
    one, other = point(10, side), point(14, side)
    if kind < 4:
        return "put", *one
    if kind < 6:
        return "take", *one
    if kind == 6:
        corners = *map(min, one, other), *map(max, one, other)
        return ("count", "list")[number >> 5 & 1], *corners
    if kind == 7:
        most = desk.side ** desk.dimensions
        return "near", (0, 1, 2, 5, most)[(number >> 4) % 5] % (most + 1), *point(10, desk.side)
    if kind == 8:
        return ("keep",)
    return "go", (number >> 10) % len(desk.kept)


class Scripts(unittest.TestCase):
    def check_script(self, script, lines):
        self.assertEqual(run_script("\n".join(script)), lines)

    def test_a_space_alone(self):
        for dimensions in (1, 2, 3):
            for bits in (1, 10):
                self.assertEqual(run_script("space %d %d" % (dimensions, bits)), [])

    def test_putting_and_taking(self):
        self.check_script(["space 2 2", "put 1 3", "put 0 2", "put 1 3", "take 3 3", "take 1 3", "take 1 3", "put 1 3"],
                          ["same", "same", "same"])

    def test_counting_and_listing(self):
        start = ["space 2 4", "put 10 2", "put 9 3", "put 0 15", "put 9 1"]
        self.check_script(start + ["count 0 0 15 15", "list 0 0 15 15"],
                          ["count 4", "point 0 15", "point 9 1", "point 9 3", "point 10 2"])
        self.check_script(start + ["count 9 2 10 14", "list 9 2 10 14"], ["count 2", "point 9 3", "point 10 2"])
        self.check_script(start + ["list 1 0 8 15", "count 1 0 8 15", "list 9 1 9 1"], ["count 0", "point 9 1"])

    def test_nearest(self):
        start = ["space 2 3", "put 0 0", "put 3 4", "put 6 1", "put 5 5"]
        self.check_script(start + ["near 2 4 4"], ["near 1 3 4", "near 2 5 5"])
        self.check_script(start + ["near 0 4 4"], [])
        self.check_script(start + ["near 64 0 0"], ["near 0 0 0", "near 25 3 4", "near 37 6 1", "near 50 5 5"])
        self.check_script(["space 1 2", "put 2", "put 0", "near 4 1"], ["near 1 0", "near 1 2"])
        self.check_script(["space 3 10", "near 1073741824 0 0 0", "put 1023 0 0", "near 1 0 0 1023"],
                          ["near 2093058 1023 0 0"])

    def test_versions(self):
        whole = "list 0 3"
        self.check_script(["space 1 2", "go 0", whole, "keep", "put 2", "keep", "put 1", "keep", "keep", "go 2", whole,
                           "take 2", "go 2", whole, "go 0", whole, "count 0 3", "go 3", whole, "keep", "go 5", whole],
                          ["version 1", "version 2", "version 3", "version 4", "point 2", "point 2", "count 0",
                           "point 1", "point 2", "version 5", "point 1", "point 2"])

    def test_at_first_version_0_is_at_hand(self):
        self.check_script(["space 1 1", "count 0 1", "near 2 0", "take 0", "go 0", "keep"],
                          ["count 0", "same", "version 1"])

    def test_what_is_kept_stays_as_it_is(self):
        self.check_script(["space 1 1", "put 0", "keep", "put 1", "take 0", "list 0 1", "go 1", "list 0 1", "put 0"],
                          ["version 1", "point 1", "point 0", "same"])

    def test_a_list(self):
        self.assertIs(type(run_script("space 1 1\ncount 0 1")), list)

    def test_drawn_scripts(self):
        for dimensions, bits in ((1, 1), (1, 3), (2, 1), (2, 2), (2, 10), (3, 1), (3, 10)):
            for seed in range(8):
                desk = PlainDesk(dimensions, bits)
                script, lines = ["space %d %d" % (dimensions, bits)], []
                for number in plain.unlike(150, 90 + seed, 2 ** 40):
                    words = [str(word) for word in drawn_line(desk, number)]
                    script.append(" ".join(words))
                    lines.extend(desk.run(words))
                self.check_script(script, lines)

    def test_many_points(self):
        points = [(number % 64, number // 64) for number in range(3000)]
        script = ["space 2 10"] + ["put %d %d" % point for point in points] + ["count 0 0 1023 1023", "count 1 1 9 9"]
        self.check_script(script, ["count 3000", "count 81"])


class Wrong(unittest.TestCase):
    def wrong(self, line, word, text):
        with self.assertRaises(BadText) as caught:
            run_script(text)
        self.assertEqual((caught.exception.line, caught.exception.word), (line, word), text)

    def check_text(self, text):
        """Whether a script runs, or is told as wrong, as plainly."""
        fault = plain_fault(text)
        if fault is not None:
            self.wrong(*fault, text)
        else:
            first, *lines = text.split("\n")
            desk = PlainDesk(*map(int, first.split(" ")[1:]))
            self.assertEqual(run_script(text), [told for line in lines for told in desk.run(line.split(" "))])

    def test_spoilt_scripts(self):
        text = "space 2 3\nput 1 4\nkeep\nput 0 7\ncount 0 2 3 7\nnear 2 5 1\nlist 0 0 7 7\ntake 1 4\ngo 1\nput 1 4"
        self.assertIsNone(plain_fault(text))
        words = text.split(" ")
        for place in range(len(text) + 1):
            for sign in "0127 -+x\n\t\r\xa0\xb2":
                self.check_text(text[:place] + sign + text[place + 1:])
                self.check_text(text[:place] + sign + text[place:])
            self.check_text(text[:place])
            self.check_text(text[place:])
            self.check_text(text[:place] + text[place + 1:])
        for place in range(len(words)):
            for word in NO_NUMBERS + ("space", "put", "keep", "0", "1", "2", "8", "64", "65"):
                self.check_text(" ".join(words[:place] + [word] + words[place + 1:]))
                self.check_text(" ".join(words[:place] + [word] + words[place:]))

    def test_first_lines(self):
        for line, word in (("", 0), ("put 0 0", 0), ("space", 1), ("space 2", 2), ("space 2 3 4", 3), ("space 4 3", 1),
                           ("space 2 11", 2), ("space 0 1", 1), ("space 1 0", 2), ("space 2 3 ", 3), ("space  2 3", 1)):
            self.wrong(0, word, line)
            self.wrong(0, word, line + "\nput 0 0")
            self.wrong(0, word, line + "\nnothing")

    def test_commands(self):
        start = "space 2 3\nput 1 1\nkeep\n"
        for line, word in (
                ("", 0), (" ", 0), ("puts 1 1", 0), ("Put 1 1", 0), ("space 2 3", 0), ("point 1 1", 0), ("same", 0),
                (" put 1 1", 0), ("put\t1 1", 0), ("1 put 1", 0),
                ("put", 1), ("put ", 1), ("put 1", 2), ("put 1 1 1", 3), ("put 1 1 ", 3), ("put  1 1", 1),
                ("put 1  1", 2), ("put 8 1", 1), ("put 1 8", 2), ("put 8 8", 1), ("put 8", 1), ("put 1 x 1", 2),
                ("take", 1), ("take 1", 2), ("take 1 1 1", 3), ("take 8 1", 1), ("take 1 8", 2), ("take 1 1 ", 3),
                ("count", 1), ("count 1 1", 3), ("count 1 1 2", 4), ("count 1 1 2 2 2", 5), ("count 8 1 2 2", 1),
                ("count 1 8 2 2", 2), ("count 1 1 8 2", 3), ("count 1 1 2 8", 4), ("count 1 1 2 2 ", 5),
                ("list", 1), ("list 1 1", 3), ("list 1 1 2", 4), ("list 1 1 2 2 2", 5), ("list 8 1 2 2", 1),
                ("list 1 8 2 2", 2), ("list 1 1 8 2", 3), ("list 1 1 2 8", 4), ("list 1 1 2 2 ", 5),
                ("near", 1), ("near 1", 2), ("near 1 1", 3), ("near 1 1 1 1", 4), ("near 65 1 1", 1), ("near 65", 1),
                ("near 1 8 1", 2), ("near 1 1 8", 3), ("near 64 1 1 ", 4),
                ("keep 1", 1), ("keep ", 1), ("keeps", 0),
                ("go", 1), ("go 2", 1), ("go 1 1", 2), ("go 1 ", 2), ("go 2 1", 1), ("go  1", 1)):
            self.wrong(3, word, start + line)
            self.wrong(3, word, start + line + "\nput 2 2")
            self.wrong(3, word, start + line + "\n\nnothing")

    def test_corners_of_no_box(self):
        for command in ("count", "list"):
            for corners in ("2 1 1 2", "1 2 2 1", "2 2 1 1", "7 0 6 7", "0 7 7 6"):
                self.wrong(1, 3, "space 2 3\n" + command + " " + corners)
                # Not right otherwise.
                self.wrong(1, 5, "space 2 3\n" + command + " " + corners + " 1")
                self.wrong(1, 5, "space 2 3\n" + command + " " + corners + " ")
                self.wrong(1, 4, "space 2 3\n" + command + " " + corners[:-1] + "8")
                self.wrong(1, 4, "space 2 3\n" + command + " " + corners[:-2])
            self.wrong(2, 2, "space 1 3\nkeep\n" + command + " 5 4")
            self.wrong(2, 4, "space 3 3\nkeep\n" + command + " 1 1 2 3 3 1")

    def test_wrong_numbers(self):
        for number in NO_NUMBERS:
            self.wrong(0, 1, "space " + number + " 3")
            self.wrong(0, 2, "space 2 " + number)
            for command in ("put", "take", "near 3", "count", "list", "count 0 0", "list 0 0"):
                many = command.count(" ") + 1
                self.wrong(1, many, "space 2 3\n" + command + " " + number + " 3")
                self.wrong(1, many + 1, "space 2 3\n" + command + " 2 " + number)
            self.wrong(1, 1, "space 2 3\nnear " + number + " 0 0")
            self.wrong(1, 1, "space 2 3\ngo " + number)
            self.wrong(1, 1, "space 2 3\nkeep " + number)

    def test_line_feeds(self):
        self.wrong(0, 0, "")
        self.wrong(0, 0, "\n")
        self.wrong(1, 0, "space 2 3\n")
        self.wrong(2, 0, "space 2 3\nkeep\n")
        self.wrong(1, 0, "space 2 3\n\nkeep")
        self.wrong(0, 2, "space 2 3\r\nkeep")

    def test_versions_that_are_not_yet(self):
        for many in range(4):
            script = "space 1 1" + "\nkeep" * many
            self.assertEqual(run_script(script + "\ngo %d" % many), ["version %d" % (made + 1) for made in range(many)])
            self.wrong(many + 1, 1, script + "\ngo %d" % (many + 1))

    def test_how_many_nearest(self):
        for dimensions, bits in ((1, 1), (2, 2), (3, 1), (3, 10)):
            centre = " 0" * dimensions
            start = "space %d %d\nput%s\nnear " % (dimensions, bits, centre)
            every = 2 ** (dimensions * bits)
            self.assertEqual(run_script(start + str(every) + centre), ["near 0" + centre])
            self.wrong(2, 1, start + str(every + 1) + centre)
            self.wrong(2, 1, start + str(every + 1))


if __name__ == "__main__":
    unittest.main()
