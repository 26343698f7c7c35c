"""Points [8], [9], [10]."""

import unittest
from itertools import product
from math import comb

from finecloud.beating import views_of
from finecloud.clouds import Cloud, cloud_of
from finecloud.errors import BadCode
from finecloud.ranks import all_clouds, cloud_at, completions, rank, whole_code, whole_of
from finecloud.space import Space
from tests import plain

SMALL = [(1, 1), (1, 2), (2, 1), (1, 3), (3, 1)]


class Wrong(unittest.TestCase):
    def wrong(self, many, action, *told):
        with self.assertRaises(BadCode) as caught:
            action(*told)
        self.assertEqual(caught.exception.many, many)


class Counting(unittest.TestCase):
    def test_all_clouds(self):
        for dimensions, bits in SMALL + [(2, 2)]:
            space = Space(dimensions, bits)
            for many in range(2 ** space.depth + 1):
                self.assertEqual(all_clouds(space, many), len(plain.rows(space.depth, many)))
            for many in (-1, -5, 2 ** space.depth + 1, 2 ** space.depth + 7):
                self.assertEqual(all_clouds(space, many), 0)
        self.assertEqual(all_clouds(Space(3, 10), 100), comb(2 ** 30, 100))

    def test_completions_of_all_views(self):
        for dimensions, bits in SMALL:
            space = Space(dimensions, bits)
            for many, fineness in product(range(2 ** space.depth + 1), range(space.depth + 1)):
                there = {}
                for row in plain.rows(space.depth, many):
                    view = plain.view(space.depth, row, fineness)
                    there[view] = there.get(view, 0) + 1
                for view in there:
                    self.assertEqual(completions(space, fineness, view), there[view])
                    self.assertEqual(completions(space, fineness, list(view)), there[view])

    def test_completions_by_hand(self):
        space = Space(2, 2)
        self.assertEqual(completions(space, 0, ((0, 3),)), 560)
        self.assertEqual(completions(space, 2, ((0, 2), (3, 1))), 6 * 4)
        self.assertEqual(completions(space, 2, ()), 1)
        self.assertEqual(completions(space, 2, ((1, 4), (2, 4))), 1)

    def test_completions_of_a_great_view(self):
        space = Space(3, 10)
        cloud = cloud_of(space, plain.unlike(500, 3, 2 ** 30))
        self.assertEqual(completions(space, 0, cloud.view(0)), all_clouds(space, 500))
        self.assertEqual(completions(space, 30, cloud.view(30)), 1)
        every = 1
        for _, count in cloud.view(7):
            every *= comb(2 ** 23, count)
        self.assertEqual(completions(space, 7, cloud.view(7)), every)

    def test_next_views_add_up(self):
        space = Space(2, 2)
        for many, fineness in product((2, 5, 9), range(4)):
            sums = {}
            for finer in views_of(space, many, fineness + 1):
                counts = {}
                for number, count in finer:
                    counts[number // 2] = counts.get(number // 2, 0) + count
                view = tuple(counts.items())
                sums[view] = sums.get(view, 0) + completions(space, fineness + 1, finer)
            self.assertEqual(sums, {view: completions(space, fineness, view) for view in views_of(space, many, fineness)})


class Ranks(Wrong):
    def check_all(self, space, many):
        for number, row in enumerate(plain.ordered(space.depth, many)):
            cloud = cloud_of(space, row)
            self.assertEqual(rank(cloud), number)
            self.assertEqual(cloud_at(space, many, number), cloud)

    def test_all_clouds_in_their_order(self):
        for dimensions, bits in SMALL:
            space = Space(dimensions, bits)
            for many in range(2 ** space.depth + 1):
                self.check_all(space, many)

    def test_all_clouds_of_some_points_among_sixteen(self):
        for dimensions, bits in ((2, 2), (1, 4)):
            for many in (0, 1, 2, 3, 5, 13, 14, 15, 16):
                self.check_all(Space(dimensions, bits), many)

    def test_by_hand(self):
        space = Space(1, 2)
        pairs = [cloud_at(space, 2, number).row for number in range(6)]
        self.assertEqual(pairs, [(2, 3), (1, 3), (1, 2), (0, 3), (0, 2), (0, 1)])

    def test_no_such_rank(self):
        space = Space(2, 2)
        for many, number in ((3, 560), (3, -1), (3, 10 ** 9), (0, 1), (16, 1), (17, 0), (-1, 0), (17, -1)):
            self.wrong(0, cloud_at, space, many, number)
        self.wrong(0, cloud_at, Space(3, 10), 40, comb(2 ** 30, 40))

    def test_no_points_and_all_points(self):
        for dimensions, bits in product(range(1, 4), range(1, 4)):
            space = Space(dimensions, bits)
            points = plain.points(dimensions, bits)
            for some in ([], points):
                self.assertEqual(rank(Cloud(space, some)), 0)
                self.assertEqual(cloud_at(space, len(some), 0), Cloud(space, some))

    def test_great_spaces(self):
        for dimensions, bits, many in ((1, 10, 300), (1, 10, 1000), (2, 10, 400), (3, 10, 1), (3, 10, 1500), (2, 9, 2)):
            space = Space(dimensions, bits)
            cloud = cloud_of(space, plain.unlike(many, bits, 2 ** space.depth))
            number = rank(cloud)
            self.assertTrue(0 <= number < all_clouds(space, many))
            self.assertEqual(cloud_at(space, many, number), cloud)
            last = all_clouds(space, many) - 1
            self.assertEqual(rank(cloud_at(space, many, 0)), 0)
            self.assertEqual(rank(cloud_at(space, many, last)), last)
            for other in (number // 3, number // 2 + 1):
                self.assertEqual(rank(cloud_at(space, many, other)), other)

    def test_great_ranks_are_ordered(self):
        space = Space(3, 10)
        one = all_clouds(space, 60) // 7
        for step in (1, 2, 2 ** 40, 2 ** 400):
            clouds = [cloud_at(space, 60, one), cloud_at(space, 60, one + step)]
            for fineness in range(31):
                views = [dict(cloud.view(fineness)) for cloud in clouds]
                unlike = sorted(set(views[0].items()) ^ set(views[1].items()))
                if unlike:
                    first = unlike[0][0]
                    self.assertLess(views[0].get(first, 0), views[1].get(first, 0))
                    break
            else:
                self.fail("unlike ranks of one cloud")


class WholeCodes(Wrong):
    def test_all_clouds(self):
        for dimensions, bits in SMALL:
            space = Space(dimensions, bits)
            for many in range(2 ** space.depth + 1):
                ordered = plain.ordered(space.depth, many)
                length = 0
                while 2 ** length < len(ordered):
                    length += 1
                rows = list(product((0, 1), repeat=length))
                for row, code in zip(ordered, rows):
                    self.assertEqual(whole_code(cloud_of(space, row)), code)
                    self.assertEqual(whole_of(space, many, code).row, row)
                for code in rows[len(ordered):]:
                    self.wrong(length, whole_of, space, many, code)

    def test_bits_of_other_lengths(self):
        space = Space(2, 2)
        for length in (0, 1, 9, 11, 30):
            self.wrong(length, whole_of, space, 3, (0,) * length)
        self.wrong(10, whole_of, space, 3, (1,) * 10)
        self.wrong(1, whole_of, space, 0, (0,))
        self.wrong(1, whole_of, space, 16, (0,))

    def test_no_clouds_of_so_many_points(self):
        for many in (-1, 17, 100):
            for bits in ((), (0,), (1, 0)):
                self.wrong(len(bits), whole_of, Space(2, 2), many, bits)

    def test_great_spaces(self):
        space = Space(3, 10)
        cloud = cloud_of(space, plain.unlike(800, 4, 2 ** 30))
        code = whole_code(cloud)
        self.assertEqual(len(code), (comb(2 ** 30, 800) - 1).bit_length())
        self.assertEqual(whole_of(space, 800, code), cloud)
        self.wrong(len(code), whole_of, space, 800, (1,) * len(code))
        self.wrong(len(code) + 1, whole_of, space, 800, code + (0,))


if __name__ == "__main__":
    unittest.main()
