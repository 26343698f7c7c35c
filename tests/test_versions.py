"""Point [46]."""

import unittest
from itertools import combinations, product

from finecloud.storeerrors import BadVersion
from finecloud.versions import History, rows_between, rows_edited
from tests import plain

FOUR = ((0, 0), (0, 3), (2, 1), (3, 0))
NO_NUMBERS = (-1, 10 ** 30, True, False, None, "0", 0.0, (0,), [0])


def rows_of(points):
    """All ascending rows of some points."""
    return [row for many in range(len(points) + 1) for row in combinations(points, many)]


class Rows(unittest.TestCase):
    def test_what_makes_the_other_row_of_a_row(self):
        self.assertEqual(rows_between(((0, 5), (3, 1)), ((1, 1), (3, 1), (4, 0))), (((0, 5),), ((1, 1), (4, 0))))
        for one, other in product(rows_of(FOUR), rows_of(FOUR)):
            edit = rows_between(one, other)
            self.assertEqual(edit, (tuple(point for point in FOUR if point in one and point not in other),
                                    tuple(point for point in FOUR if point in other and point not in one)))
            self.assertEqual(rows_edited(one, edit), other)

    def test_rows_without_points(self):
        self.assertEqual(rows_between((), ()), ((), ()))
        self.assertEqual(rows_between((), FOUR), ((), FOUR))
        self.assertEqual(rows_between(FOUR, ()), (FOUR, ()))
        self.assertEqual(rows_edited((), ((), ())), ())

    def test_all_edits_of_all_rows(self):
        for points, cut, added in product(rows_of(FOUR), rows_of(FOUR), rows_of(FOUR)):
            there = (set(points) - set(cut)) | set(added)
            self.assertEqual(rows_edited(points, (cut, added)), tuple(sorted(there)))

    def test_an_edit_that_cuts_what_is_not_there_or_adds_what_is(self):
        points = ((0, 3), (2, 1))
        self.assertEqual(rows_edited(points, (((0, 0),), ())), points)
        self.assertEqual(rows_edited(points, ((), ((2, 1),))), points)
        self.assertEqual(rows_edited(points, (((0, 0), (2, 1)), ((0, 3), (3, 0)))), ((0, 3), (3, 0)))

    def test_what_is_cut_and_added_is_there(self):
        for points in ((), ((2, 1),), FOUR):
            there = tuple(sorted(set(points) | {(2, 1)}))
            self.assertEqual(rows_edited(points, (((2, 1),), ((2, 1),))), there)

    def test_rows_ascend_as_tuples_in_all_dimensions(self):
        for rows in (((0,), (2,), (9,), (10,)), ((0, 0, 7), (0, 1, 0), (1, 0, 0), (10, 0, 0))):
            self.assertEqual(rows_edited(rows[1:3], ((), (rows[0], rows[3]))), rows)
            self.assertEqual(rows_between((), rows), ((), rows))

    def test_lists_are_taken_and_left_alone(self):
        one, other = [(0, 0), (0, 3)], [(0, 3), (2, 1)]
        edit = rows_between(one, other)
        self.assertEqual(edit, (((0, 0),), ((2, 1),)))
        cut, added = [(0, 0)], [(2, 1)]
        self.assertEqual(rows_edited(one, (cut, added)), ((0, 3), (2, 1)))
        self.assertEqual((one, other, cut, added), ([(0, 0), (0, 3)], [(0, 3), (2, 1)], [(0, 0)], [(2, 1)]))
        self.assertEqual((type(edit), type(edit[0]), type(edit[1])), (tuple, tuple, tuple))
        self.assertIs(type(rows_edited(one, (cut, added))), tuple)


class PlainHistory:
    """Versions in the plainest way: of each the row, and all versions above it."""

    def __init__(self):
        self.rows = [()]
        self.lines = [[0]]

    def put(self, number, points):
        self.rows.append(points)
        self.lines.append([len(self.lines)] + self.lines[number])

    def common(self, one, other):
        return max(set(self.lines[one]) & set(self.lines[other]))

    def joined(self, one, other):
        start = self.rows[self.common(one, other)]
        points = set(start) | set(self.rows[one]) | set(self.rows[other])
        return tuple(sorted(point for point in points if self.has_joined(start, one, other, point)))

    def has_joined(self, start, one, other, point):
        """Whether a point is there when each version did what it did to it."""
        was = point in start
        for number in (one, other):
            if (point in self.rows[number]) != was:
                return not was
        return was


def drawn_histories(many, points, seed):
    """A history and a plain one of as many drawn versions, with drawn rows of some points."""
    history, beside = History(), PlainHistory()
    for number in plain.unlike(many, seed, 2 ** 40):
        row = tuple(point for place, point in enumerate(points) if number >> place & 1)
        made_of = (number >> 20) % history.many()
        history.put(made_of, row)
        beside.put(made_of, row)
    return history, beside


class Histories(unittest.TestCase):
    def test_version_0_alone(self):
        history = History()
        self.assertEqual((history.many(), history.points(0), history.above(0)), (1, (), [0]))
        self.assertEqual((history.common(0, 0), history.joined(0, 0)), (0, ()))

    def test_putting(self):
        history = History()
        self.assertEqual(history.put(0, ((0, 5), (3, 1))), 1)
        self.assertEqual(history.put(0, ()), 2)
        self.assertEqual(history.put(1, ((3, 1),)), 3)
        self.assertEqual(history.put(3, ((3, 1),)), 4)
        self.assertEqual(history.many(), 5)
        rows = [(), ((0, 5), (3, 1)), (), ((3, 1),), ((3, 1),)]
        self.assertEqual([history.points(number) for number in range(5)], rows)
        self.assertEqual([history.above(number) for number in range(5)],
                         [[0], [1, 0], [2, 0], [3, 1, 0], [4, 3, 1, 0]])
        self.assertEqual([history.common(4, number) for number in range(5)], [0, 1, 0, 3, 4])

    def test_joining(self):
        history = History()
        start = history.put(0, ((0, 0), (1, 1), (2, 2)))
        one = history.put(start, ((0, 0), (2, 2), (5, 5)))
        other = history.put(start, ((1, 1), (2, 2), (4, 4), (5, 5)))
        self.assertEqual(history.joined(one, other), ((2, 2), (4, 4), (5, 5)))
        self.assertEqual(history.joined(other, one), ((2, 2), (4, 4), (5, 5)))

    def test_what_was_done_and_undone_on_the_way_is_not_done(self):
        history = History()
        start = history.put(0, ((1,), (2,)))
        back = history.put(history.put(start, ((1,), (3,))), ((1,), (2,)))
        other = history.put(start, ((1,), (4,)))
        self.assertEqual(history.joined(back, other), ((1,), (4,)))

    def test_joined_with_itself_with_0_and_with_what_is_above(self):
        history = drawn_histories(40, FOUR, 5)[0]
        for number in range(history.many()):
            self.assertEqual(history.joined(number, number), history.points(number))
            for other in history.above(number):
                self.assertEqual(history.common(number, other), other)
                self.assertEqual(history.common(other, number), other)
                self.assertEqual(history.joined(number, other), history.points(number))
                self.assertEqual(history.joined(other, number), history.points(number))

    def test_drawn_histories(self):
        points = sorted(product(range(3), repeat=2))
        for many, seed in ((1, 1), (2, 2), (7, 3), (40, 4), (90, 5)):
            history, beside = drawn_histories(many, points, seed)
            self.assertEqual(history.many(), many + 1)
            for one, other in product(range(many + 1), repeat=2):
                self.assertEqual(history.common(one, other), beside.common(one, other))
                self.assertEqual(history.joined(one, other), beside.joined(one, other))
            for number in range(many + 1):
                self.assertEqual((history.points(number), history.above(number)),
                                 (beside.rows[number], beside.lines[number]))

    def test_a_long_line(self):
        history = History()
        for number in range(3000):
            history.put(number, ((number,),))
        self.assertEqual(history.above(3000), list(range(3000, -1, -1)))
        self.assertEqual(history.put(1, ((7,),)), 3001)
        self.assertEqual(history.common(3000, 3001), 1)
        self.assertEqual(history.joined(3000, 3001), ((7,), (2999,)))

    def test_nothing_handed_in_or_out_is_kept(self):
        history = History()
        row = [(0, 5), (3, 1)]
        number = history.put(0, row)
        row.append((9, 9))
        self.assertEqual(history.points(number), ((0, 5), (3, 1)))
        above = history.above(number)
        self.assertIs(type(above), list)
        above.append(7)
        above[0] = 5
        self.assertEqual(history.above(number), [1, 0])
        self.assertIs(type(history.joined(0, 1)), tuple)


class Wrong(unittest.TestCase):
    def wrong(self, number, action, *told):
        with self.assertRaises(BadVersion) as caught:
            action(*told)
        self.assertIs(caught.exception.number, number)

    def test_no_numbers_of_versions(self):
        two = History()
        two.put(0, FOUR)
        two.put(0, ())
        for history in (History(), two):
            many = history.many()
            for number in NO_NUMBERS + (many, many + 1):
                self.wrong(number, history.put, number, ())
                self.wrong(number, history.points, number)
                self.wrong(number, history.above, number)
                for action in (history.common, history.joined):
                    self.wrong(number, action, number, 0)
                    self.wrong(number, action, 0, number)
                    for other in NO_NUMBERS:
                        self.wrong(number, action, number, other)
            self.assertEqual(history.many(), many)


if __name__ == "__main__":
    unittest.main()
