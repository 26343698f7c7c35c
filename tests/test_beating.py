"""Point [13]."""

import unittest
from fractions import Fraction
from itertools import product
from math import comb

from finecloud.beating import is_code, told_shorter, views_of
from finecloud.clouds import cloud_of
from finecloud.progress import beginning
from finecloud.ranks import all_clouds
from finecloud.space import Space
from tests import plain

SMALL = [(1, 1), (1, 2), (2, 1), (1, 3), (3, 1)]


def small_views():
    """Small spaces, numbers of points, finenesses, and how many clouds have each view."""
    for dimensions, bits in SMALL:
        space = Space(dimensions, bits)
        for many, fineness in product(range(2 ** space.depth + 1), range(space.depth + 1)):
            there = {}
            for row in plain.rows(space.depth, many):
                view = plain.view(space.depth, row, fineness)
                there[view] = there.get(view, 0) + 1
            yield space, many, fineness, there


class Views(unittest.TestCase):
    def test_all_views(self):
        for space, many, fineness, there in small_views():
            views = views_of(space, many, fineness)
            self.assertIs(type(views), list)
            self.assertEqual(views, sorted(there))

    def test_sixteen_points(self):
        for dimensions, bits in ((2, 2), (1, 4)):
            for many, fineness in product((0, 1, 3, 8, 16), range(5)):
                there = {plain.view(4, row, fineness) for row in plain.rows(4, many)}
                self.assertEqual(views_of(Space(dimensions, bits), many, fineness), sorted(there))

    def test_no_clouds_of_so_many_points(self):
        for many, fineness in product((-1, 5, 100), range(3)):
            self.assertEqual(views_of(Space(1, 2), many, fineness), [])

    def test_great_spaces(self):
        space = Space(3, 10)
        self.assertEqual(views_of(space, 700, 0), [((0, 700),)])
        self.assertEqual(len(views_of(space, 700, 1)), 701)
        self.assertEqual(views_of(space, 1, 12), [((number, 1),) for number in range(4096)])
        views = views_of(space, 2, 7)
        self.assertEqual(len(views), 128 * 129 // 2)
        self.assertEqual(views, sorted(set(views)))


class Codes(unittest.TestCase):
    def test_sums_of_all_small_lots(self):
        views = [((number, 1),) for number in range(4)]
        for many in range(1, 5):
            for lengths in product(range(5), repeat=many):
                fits = sum(Fraction(1, 2 ** length) for length in lengths) <= 1
                self.assertIs(is_code(dict(zip(views, lengths))), fits)

    def test_of_many_views(self):
        views = views_of(Space(1, 10), 1, 10)
        self.assertTrue(is_code({view: 10 for view in views}))
        self.assertFalse(is_code({view: 10 if view[0][0] else 9 for view in views}))
        steps = {view: view[0][0] + 1 for view in views}
        self.assertTrue(is_code(steps))
        steps[views[-1]] = steps[views[-2]]
        self.assertTrue(is_code(steps))
        steps[views[-1]] -= 1
        self.assertFalse(is_code(steps))

    def test_great_lengths(self):
        views = views_of(Space(1, 2), 1, 2)
        self.assertTrue(is_code(dict(zip(views, (1, 2, 3, 10 ** 12)))))
        self.assertFalse(is_code(dict(zip(views, (1, 2, 2, 10 ** 12)))))
        self.assertFalse(is_code(dict(zip(views, (0, 10 ** 12, 10 ** 12, 10 ** 12)))))

    def test_lengths_stay_as_they_are_in_any_order(self):
        lengths = {((1, 1),): 2, ((0, 1),): 1, ((2, 1),): 2}
        self.assertTrue(is_code(lengths))
        self.assertEqual(lengths, {((0, 1),): 1, ((1, 1),): 2, ((2, 1),): 2})

    def test_beginnings_are_codes(self):
        for space, many, fineness, there in small_views():
            lengths = {}
            for row in plain.rows(space.depth, many):
                lengths[plain.view(space.depth, row, fineness)] = len(beginning(cloud_of(space, row), fineness))
            self.assertTrue(is_code(lengths))


class Shorter(unittest.TestCase):
    def test_counted_view_by_view(self):
        for space, many, fineness, there in small_views():
            every = sum(there.values())
            for shift, fewer in product(range(4), range(4)):
                lengths = {view: (at * 5 + shift) % 4 for at, view in enumerate(reversed(list(there)))}
                told = sum(there[view] for view in there if 2 ** (lengths[view] + fewer) * there[view] <= every)
                self.assertEqual(told_shorter(space, many, fineness, lengths, fewer), told)

    def test_by_hand(self):
        space = Space(1, 2)
        lengths = {((0, 1), (1, 1)): 1, ((0, 2),): 0, ((1, 2),): 2}
        # 6 clouds, of which 4, 1 and 1 have these views.
        self.assertEqual([told_shorter(space, 2, 1, lengths, fewer) for fewer in range(4)], [2, 1, 1, 0])

    def test_no_code_beats_its_worth(self):
        for space, many, fineness, there in small_views():
            if len(there) <= 5:
                every = sum(there.values())
                for row in product(range(5), repeat=len(there)):
                    lengths = dict(zip(there, row))
                    if is_code(lengths):
                        for fewer in range(4):
                            self.assertLessEqual(told_shorter(space, many, fineness, lengths, fewer) * 2 ** fewer, every)

    def test_what_is_no_code_may_beat_it(self):
        space = Space(1, 3)
        lengths = {view: 0 for view in views_of(space, 3, 3)}
        self.assertFalse(is_code(lengths))
        self.assertEqual(told_shorter(space, 3, 3, lengths, 5), 56)
        self.assertEqual(told_shorter(space, 3, 3, lengths, 6), 0)

    def test_great_spaces(self):
        space = Space(3, 10)
        every = all_clouds(space, 50)
        lengths = {view: 0 for view in views_of(space, 50, 1)}
        self.assertEqual(told_shorter(space, 50, 1, lengths, 0), every)
        self.assertEqual(told_shorter(space, 50, 1, lengths, 10 ** 12), 0)
        # All points in one half: either one is a little less than 1 cloud in 2 to the 50.
        self.assertEqual(told_shorter(space, 50, 1, lengths, 50), 2 * comb(2 ** 29, 50))


if __name__ == "__main__":
    unittest.main()
