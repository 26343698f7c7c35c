"""Point [41]."""

import unittest
from itertools import product

from finecloud.asking import count_in, nearest, nearest_plain, points_in
from finecloud.clouds import Cloud, cloud_of
from finecloud.errors import BadPoint
from finecloud.space import Box, Space
from tests import plain

NO_POINTS = ((0,), (0, 0, 0), (), [0, 0], (0, 4), (-1, 0), (0, True), (0, "1"), (1.0, 0), "00", None, 3)
NO_NUMBERS = (-1, 17, 10 ** 30, True, False, None, "1", 1.0, (1,))


def clouds_of(dimensions, bits, step=1):
    space = Space(dimensions, bits)
    every = plain.AllClouds(space.depth)
    return [cloud_of(space, every.row(number)) for number in every.numbers()[::step]]


def plain_nearest(cloud, centre, many):
    return tuple(sorted((plain.square(centre, point), point) for point in cloud.points())[:many])


class InBoxes(unittest.TestCase):
    def check_box(self, cloud, box):
        there = tuple(sorted(point for point in cloud.points() if box.holds(point)))
        self.assertEqual(points_in(cloud, box), there)
        self.assertIs(type(points_in(cloud, box)), tuple)
        self.assertEqual(count_in(cloud, box), len(there))

    def test_example(self):
        cloud = Cloud(Space(2, 3), [(0, 0), (3, 4), (6, 1), (5, 5)])
        box = Box(cloud.space, (2, 0), (6, 4))
        self.assertEqual(count_in(cloud, box), 2)
        self.assertEqual(points_in(cloud, box), ((3, 4), (6, 1)))
        self.assertEqual(nearest(cloud, (4, 4), 2)[0], ((1, (3, 4)), (2, (5, 5))))

    def test_all_small_clouds_and_boxes(self):
        for dimensions, bits in ((1, 2), (2, 1), (1, 3), (3, 1)):
            for cloud in clouds_of(dimensions, bits):
                for lows, highs in plain.boxes(dimensions, bits):
                    self.check_box(cloud, Box(cloud.space, lows, highs))

    def test_sixteen_points(self):
        for cloud in clouds_of(2, 2, 1500):
            for lows, highs in plain.boxes(2, 2):
                self.check_box(cloud, Box(cloud.space, lows, highs))

    def test_ascending_as_tuples(self):
        cloud = Cloud(Space(2, 2), plain.points(2, 2))
        self.assertEqual(points_in(cloud, Box(cloud.space, (1, 0), (2, 2))), tuple(product((1, 2), (0, 1, 2))))

    def test_great_spaces(self):
        space = Space(3, 10)
        for many in (0, 1, 7, 3000):
            cloud = cloud_of(space, plain.unlike(many, 11, 2 ** 30))
            for lows, highs in (((0, 0, 0), (1023, 1023, 1023)), ((511, 511, 511), (512, 512, 512)),
                                ((1, 2, 3), (900, 800, 600)), ((0, 500, 0), (1023, 510, 1023))):
                self.check_box(cloud, Box(space, lows, highs))
        for point in cloud.points()[:5]:
            self.assertEqual(points_in(cloud, Box(space, point, point)), (point,))


class Nearest(unittest.TestCase):
    def check_nearest(self, cloud, centre, many):
        rows, looked = nearest(cloud, centre, many)
        self.assertEqual(rows, plain_nearest(cloud, centre, many))
        self.assertIs(type(rows), tuple)
        self.assertIs(type(looked), int)
        self.assertLessEqual(0, looked)
        self.assertLess(looked, 2 ** (cloud.space.depth + 1))
        self.assertEqual(nearest_plain(cloud, centre, many), rows)

    def test_all_small_clouds(self):
        for dimensions, bits in ((1, 1), (1, 2), (2, 1), (1, 3), (3, 1)):
            points = plain.points(dimensions, bits)
            for cloud in clouds_of(dimensions, bits):
                for centre in points:
                    for many in sorted({0, 1, 2, cloud.many(), len(points)}):
                        self.check_nearest(cloud, centre, many)

    def test_sixteen_points(self):
        for cloud in clouds_of(2, 2, 1700):
            for centre, many in product(plain.points(2, 2), range(17)):
                self.check_nearest(cloud, centre, many)

    def test_of_alike_squares_points_ascend(self):
        cloud = Cloud(Space(2, 2), plain.points(2, 2))
        self.assertEqual(nearest(cloud, (1, 1), 5)[0],
                         ((0, (1, 1)), (1, (0, 1)), (1, (1, 0)), (1, (1, 2)), (1, (2, 1))))
        self.assertEqual(nearest(cloud, (1, 1), 3)[0], ((0, (1, 1)), (1, (0, 1)), (1, (1, 0))))
        self.assertEqual(nearest(cloud, (2, 2), 2)[0], ((0, (2, 2)), (1, (1, 2))))
        corners = Cloud(Space(2, 3), [(7, 7), (1, 1), (7, 1), (1, 7)])
        self.assertEqual(nearest(corners, (4, 4), 4)[0], ((18, (1, 1)), (18, (1, 7)), (18, (7, 1)), (18, (7, 7))))

    def test_none_all_and_more(self):
        cloud = Cloud(Space(2, 2), [(0, 0), (1, 0), (3, 3)])
        self.assertEqual(nearest(cloud, (3, 0), 0)[0], ())
        every = ((4, (1, 0)), (9, (0, 0)), (9, (3, 3)))
        for many in (3, 4, 16):
            self.assertEqual(nearest(cloud, (3, 0), many)[0], every)
            self.assertEqual(nearest_plain(cloud, (3, 0), many), every)
        self.assertEqual(nearest(Cloud(Space(2, 2), ()), (3, 0), 16)[0], ())

    def wrong(self, thing, cloud, centre, many):
        with self.assertRaises(BadPoint) as caught:
            nearest(cloud, centre, many)
        self.assertEqual(caught.exception.point, thing)
        self.assertIs(type(caught.exception.point), type(thing))

    def test_wrong_things(self):
        for cloud in (Cloud(Space(2, 2), ()), Cloud(Space(2, 2), [(0, 0)])):
            for centre in NO_POINTS:
                for many in (0, 1) + NO_NUMBERS:
                    self.wrong(centre, cloud, centre, many)
            for many in NO_NUMBERS:
                self.wrong(many, cloud, (0, 0), many)

    def test_great_spaces(self):
        space = Space(3, 10)
        for many in (0, 1, 5, 4000):
            cloud = cloud_of(space, plain.unlike(many, 12, 2 ** 30))
            for centre in ((0, 0, 0), (512, 511, 300)):
                for asked in (0, 1, 6, 700, 2 ** 30):
                    self.check_nearest(cloud, centre, asked)

    def test_few_prefixes_are_looked_at(self):
        cloud = cloud_of(Space(3, 10), plain.unlike(4000, 13, 2 ** 30))
        self.assertLess(nearest(cloud, (300, 400, 500), 3)[1], 400)


if __name__ == "__main__":
    unittest.main()
