"""Point [47]."""

import re
import unittest

from finecloud.storeerrors import BadCut, BadVersion
from finecloud.stores import Store, line_of, versions_behind
from finecloud.versions import rows_edited
from tests import plain

NUMBER = "(?:0|[1-9][0-9]{0,17})"
POINT = NUMBER + "(?:," + NUMBER + ")*"
ROW = "-|" + POINT + "(?:;" + POINT + ")*"
LINE = re.compile("({0}) ({0}) ({1}) ({1}) ({0})".format(NUMBER, ROW))

# Three versions; the last two are both made of the first one.
TEXT = "1 0 - 0,5;3,1 1\n2 1 0,5 - 2\n3 1 3,1 0,6;10,0 3\n"

# N is the number that the version must have.
NO_LINES = (
    "", " ", "N", "- - - - -", "N 0 - -", "N 0 - - N N", "N  0 - - N", "N 0 - -  N", " N 0 - - N", "N 0 - - N ",
    # Numbers out of order, or of later versions.
    "3 0 - - 3", "0 0 - - 0", "N N - - N", "N 3 - - N", "N 0 - - 3", "3 0 - - N", "N - - - N",
    # Needless 0s and signs.
    "0N 0 - - 0N", "N 0 - - 0N", "N 00 - - N", "+N 0 - - +N", "N -0 - - N", "N 0 - 00,1 N", "N 0 - 0,01 N",
    "N 0 - +1,0 N", "N 0 - -1,0 N", "N 0 - 1_0,0 N", "N 0 - 1.0,0 N",
    # Points that do not ascend, or stand twice.
    "N 0 - 3,1;0,5 N", "N 0 - 0,5;0,5 N", "N 0 3,1;0,5 - N", "N 0 0,5;0,5 - N", "N 0 - 0,1;0,2;0,2 N",
    "N 0 - 10,0;9,0 N",
    # Other signs.
    "N 0 -- - N", "N 0 - 0,5; N", "N 0 - ;0,5 N", "N 0 - 0,5;;3,1 N", "N 0 - 0,,5 N", "N 0 - ,5 N", "N 0 - 5, N",
    "N 0 - 0.5 N", "N 0 - 0:5 N", "N 0 - (0,5) N", "N 0 - -;0,5 N", "N 0 - 0,5;- N", "N 0 - a,5 N", "x 0 - - x",
    "N\t0\t-\t-\tN", "N\t0 - - N", "N 0 - - N\r", "\rN 0 - - N", "N 0 - - N\x0b", "N 0 - - N\u2028", "N\xa00 - - N",
    "N 0 - \u0661,5 N", "N 0 - \xb2,5 N", "\uff11 0 - - \uff11", "N 0 \u2212 - N", "N 0 - - N\x00", "N,0,-,-,N",
    # A number of 19 figures, and greater ones.
    "N 0 - 1000000000000000000,0 N", "N 0 - 0,0000000000000000000 N", "N 0 - 1" + "0" * 6000 + ",0 N",
    "N 1000000000000000000 - - N", "N " + "9" * 6000 + " - - N",
)


def plain_row(line, number):
    """What the line of a version with a number tells, by a pattern; None if it tells none."""
    found = LINE.fullmatch(line)
    if found is None or found[1] != str(number) or found[5] != str(number) or int(found[2]) >= number:
        return None
    rows = []
    for word in (found[3], found[4]):
        row = [] if word == "-" else [tuple(map(int, part.split(","))) for part in word.split(";")]
        if row != sorted(set(row)):
            return None
        rows.append(tuple(row))
    return int(found[2]), tuple(rows)


def plain_versions(text):
    """The rows of the versions of a text, and the longest beginning of it that has them."""
    rows, settled = [()], ""
    while "\n" in text:
        line, text = text.split("\n", 1)
        row = plain_row(line, len(rows))
        if row is None:
            break
        rows.append(rows_edited(rows[row[0]], row[1]))
        settled += line + "\n"
    return rows, settled


def rows_in(history):
    return [history.points(number) for number in range(history.many())]


def drawn_store(many, seed, dimensions, is_synced):
    """A store with so many drawn versions; some of them are settled, by the way."""
    store = Store("")
    for number in plain.unlike(many, seed, 2 ** 60):
        points = plain.some(number >> 30 & 7, number, plain.points(dimensions, 2))
        store.put((number >> 20) % store.history.many(), tuple(sorted(points)))
        if is_synced(store.history.many()):
            store.sync()
    return store


class Lines(unittest.TestCase):
    def test_lines(self):
        self.assertEqual(line_of(1, (0, ((), ((0, 5), (3, 1))))), "1 0 - 0,5;3,1 1")
        self.assertEqual(line_of(2, (1, (((0, 5),), ()))), "2 1 0,5 - 2")
        self.assertEqual(line_of(12, (7, ((), ()))), "12 7 - - 12")
        self.assertEqual(line_of(3, (0, (((7,),), ((8,), (10,))))), "3 0 7 8;10 3")
        self.assertEqual(line_of(3, (2, (((1, 2, 3),), ((0, 0, 1023),)))), "3 2 1,2,3 0,0,1023 3")

    def test_lines_of_lists(self):
        self.assertEqual(line_of(1, (0, ([], [(0, 5), (3, 1)]))), "1 0 - 0,5;3,1 1")


class Reading(unittest.TestCase):
    def check_text(self, text):
        rows, settled = plain_versions(text)
        store = Store(text)
        self.assertEqual((store.text, store.loose, store.settled()), (settled, "", len(rows)))
        self.assertEqual(rows_in(store.history), rows)

    def check_settled(self, text, settled):
        store = Store(text)
        self.assertEqual((store.text, store.settled()), (settled, settled.count("\n") + 1))
        self.check_text(text)

    def test_an_empty_text(self):
        store = Store("")
        self.assertEqual((store.text, store.loose, store.settled(), store.history.many()), ("", "", 1, 1))

    def test_versions_of_a_text(self):
        store = Store(TEXT)
        self.assertEqual((store.text, store.loose, store.settled()), (TEXT, "", 4))
        self.assertEqual(rows_in(store.history), [(), ((0, 5), (3, 1)), ((3, 1),), ((0, 5), (0, 6), (10, 0))])
        self.assertEqual([store.history.above(number) for number in (2, 3)], [[2, 1, 0], [3, 1, 0]])

    def test_a_lacking_line_feed(self):
        self.check_settled(TEXT[:-1], TEXT[:TEXT.index("3 1 ")])
        self.check_settled("1 0 - - 1", "")
        self.check_settled("\n", "")
        self.check_settled("\n1 0 - - 1\n", "")

    def test_all_beginnings_of_a_text(self):
        for length in range(len(TEXT) + 1):
            self.check_settled(TEXT[:length], TEXT[:TEXT.rfind("\n", 0, length) + 1])

    def test_what_is_no_line(self):
        good = "1 0 - 0,5 1\n"
        for line in NO_LINES:
            first, second = line.replace("N", "1"), line.replace("N", "2")
            for text in (first, first + "\n", first + "\n" + good):
                self.check_settled(text, "")
            for text in (second, second + "\n", second + "\n2 1 - - 2\n"):
                self.check_settled(good + text, good)

    def test_lines_again_and_lines_left_out(self):
        one, two, three = TEXT.splitlines(keepends=True)
        self.check_settled(one + one + two, one)
        self.check_settled(one + three, one)
        self.check_settled(two + three, "")
        self.check_settled(two + one, "")
        self.check_settled(one + "\n" + two, one)
        self.check_settled(one + two + "3 3 - - 3\n", one + two)
        self.check_settled(one + two + "3 2 - - 3\n" + "4 0 - - 4\n", one + two + "3 2 - - 3\n4 0 - - 4\n")

    def test_numbers_of_18_figures(self):
        most = 10 ** 18 - 1
        for text in ("1 0 - %d,%d 1\n" % (most, most), "1 0 - 0,%d 1\n" % 10 ** 17, "1 0 %d - 1\n" % most):
            self.check_settled(text, text)
        self.assertEqual(Store("1 0 - %d,0 1\n" % most).history.points(1), ((most, 0),))
        for text in ("1 0 - %d,0 1\n" % (most + 1), "1 0 - 0,%d 1\n" % (most + 1), "1 0 %d - 1\n" % (most + 1)):
            self.check_settled(text, "")

    def test_ten_versions_and_more(self):
        text = "".join("%d %d - %d,0 %d\n" % (number, number - 1, number, number) for number in range(1, 130))
        self.check_settled(text, text)
        self.assertEqual(Store(text).history.points(129), tuple((number, 0) for number in range(1, 130)))

    def test_points_of_all_dimensions(self):
        for text in ("1 0 - 0;7;10 1\n2 1 7 9 2\n", "1 0 - 0,0,9;0,1,0 1\n2 0 - - 2\n"):
            self.check_settled(text, text)

    def test_spoilt_texts(self):
        for place in range(len(TEXT)):
            for sign in "0127,;- \n\r\tx\xb2":
                self.check_text(TEXT[:place] + sign + TEXT[place + 1:])
                self.check_text(TEXT[:place] + sign + TEXT[place:])
            self.check_text(TEXT[:place] + TEXT[place + 1:])

    def test_a_line_that_a_store_writes_is_read(self):
        for dimensions in (1, 2, 3):
            store = drawn_store(30, 8, dimensions, lambda many: False)
            self.check_settled(store.loose, store.loose)
            for number, line in enumerate(store.loose.splitlines(), 1):
                self.assertEqual(line_of(number, plain_row(line, number)), line)


class Writing(unittest.TestCase):
    def test_example(self):
        store = Store("")
        self.assertEqual((store.put(0, ((0, 5), (3, 1))), store.put(1, ((3, 1),))), (1, 2))
        self.assertEqual(store.loose, "1 0 - 0,5;3,1 1\n2 1 0,5 - 2\n")
        self.assertEqual((versions_behind(store, 15), versions_behind(store, 16)), (1, 2))
        self.assertEqual(Store(store.fallen(20)).history.points(1), ((0, 5), (3, 1)))

    def test_settling(self):
        store = Store("1 0 - 7 1\nnothing")
        self.assertEqual((store.text, store.settled(), store.loose), ("1 0 - 7 1\n", 2, ""))
        self.assertEqual(store.put(1, [(6,), (7,)]), 2)
        self.assertEqual((store.text, store.settled(), store.loose), ("1 0 - 7 1\n", 2, "2 1 - 6 2\n"))
        self.assertEqual(store.history.points(2), ((6,), (7,)))
        self.assertEqual(store.put(0, ((5,),)), 3)
        self.assertEqual((store.settled(), store.loose), (2, "2 1 - 6 2\n3 0 - 5 3\n"))
        store.sync()
        whole = "1 0 - 7 1\n2 1 - 6 2\n3 0 - 5 3\n"
        self.assertEqual((store.text, store.settled(), store.loose), (whole, 4, ""))
        store.sync()
        self.assertEqual((store.text, store.settled(), store.loose), (whole, 4, ""))
        self.assertEqual(store.put(2, ()), 4)
        self.assertEqual((store.text, store.loose), (whole, "4 2 6;7 - 4\n"))
        self.assertEqual(rows_in(Store(store.fallen(12)).history), [(), ((7,),), ((6,), (7,)), ((5,),), ()])

    def test_cuts_of_nothing_and_of_all(self):
        store = Store("")
        self.assertEqual((store.fallen(0), versions_behind(store, 0)), ("", 1))
        store.put(0, ((0, 5),))
        store.sync()
        self.assertEqual((store.fallen(0), versions_behind(store, 0)), (store.text, 2))
        store.put(1, ())
        every = len(store.loose)
        self.assertEqual((store.fallen(0), versions_behind(store, 0)), (store.text, 2))
        self.assertEqual((store.fallen(every - 1), versions_behind(store, every - 1)),
                         (store.text + store.loose[:-1], 2))
        self.assertEqual((store.fallen(every), versions_behind(store, every)), (store.text + store.loose, 3))

    def test_a_fall_leaves_the_store_alone(self):
        store = Store(TEXT)
        store.put(3, ((1, 1),))
        before = store.text, store.loose, store.settled(), rows_in(store.history)
        store.fallen(3)
        versions_behind(store, 3)
        self.assertEqual((store.text, store.loose, store.settled(), rows_in(store.history)), before)

    def check_all_cuts(self, store):
        rows = rows_in(store.history)
        lines = [len(line) for line in store.loose.splitlines(keepends=True)]
        for cut in range(len(store.loose) + 1):
            many = store.settled() + sum(sum(lines[:place + 1]) <= cut for place in range(len(lines)))
            text = store.fallen(cut)
            self.assertEqual(text, store.text + store.loose[:cut])
            self.assertEqual(versions_behind(store, cut), many)
            self.assertGreaterEqual(many, store.settled())
            left = Store(text)
            self.assertEqual(rows_in(left.history), rows[:many])
            self.assertEqual((left.settled(), left.loose), (many, ""))
            self.assertEqual([left.history.above(number) for number in range(many)],
                             [store.history.above(number) for number in range(many)])
        self.assertEqual(versions_behind(store, len(store.loose)), store.history.many())

    def test_all_cuts_of_drawn_writings(self):
        for dimensions in (1, 2, 3):
            for many in (0, 1, 2, 12):
                for often in (1, 5, 100):
                    self.check_all_cuts(drawn_store(many, 30 + many, dimensions, lambda made: made % often == 0))

    def test_going_on_behind_a_fall(self):
        store = drawn_store(10, 4, 2, lambda many: many == 4)
        for cut in range(0, len(store.loose) + 1, 7):
            left = Store(store.fallen(cut))
            many = left.history.many()
            self.assertEqual(left.put(many - 1, ((9, 9),)), many)
            left.put(0, ())
            self.check_all_cuts(left)
            left.sync()
            self.assertEqual(rows_in(Store(left.text).history), rows_in(store.history)[:many] + [((9, 9),), ()])


class Wrong(unittest.TestCase):
    def test_no_numbers_of_versions(self):
        store = Store(TEXT)
        for number in (-1, 4, 10 ** 30, True, False, None, "0", 0.0, (0,)):
            with self.assertRaises(BadVersion) as caught:
                store.put(number, ((1, 1),))
            self.assertIs(caught.exception.number, number)
        self.assertEqual((store.history.many(), store.text, store.loose), (4, TEXT, ""))

    def test_no_cuts(self):
        none, some = Store(TEXT), Store("")
        some.put(0, ((0, 5), (3, 1)))
        for store in (none, some):
            many = len(store.loose)
            for cut in (-1, many + 1, 10 ** 30, True, False, None, "0", 0.0, (0,)):
                for action in (store.fallen, lambda cut: versions_behind(store, cut)):
                    with self.assertRaises(BadCut) as caught:
                        action(cut)
                    self.assertIs(caught.exception.place, cut)


if __name__ == "__main__":
    unittest.main()
