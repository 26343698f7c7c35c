"""Points [6], [7]."""

import unittest
from itertools import product

from finecloud.clouds import Cloud, cloud_of
from finecloud.errors import BadPoint
from finecloud.space import Space
from tests import plain

SPACE = Space(2, 2)
SHEEP = [(3, 3), (0, 0), (1, 0)]


def all_rows(depth):
    return [row for many in range(2 ** depth + 1) for row in plain.rows(depth, many)]


class Clouds(unittest.TestCase):
    def wrong(self, point, action, *told):
        with self.assertRaises(BadPoint) as caught:
            action(*told)
        self.assertEqual(caught.exception.point, point)

    def test_attributes(self):
        cloud = Cloud(SPACE, SHEEP)
        self.assertEqual((cloud.space, cloud.row), (SPACE, (0, 2, 15)))
        self.assertIs(type(cloud.row), tuple)
        self.assertEqual(Cloud(SPACE, tuple(SHEEP)).row, (0, 2, 15))
        self.assertEqual(Cloud(SPACE, ()).row, ())

    def test_what_is_handed_in_stays_and_is_not_kept(self):
        points = list(SHEEP)
        cloud = Cloud(SPACE, points)
        self.assertEqual(points, SHEEP)
        points.clear()
        self.assertEqual(cloud.points(), ((0, 0), (1, 0), (3, 3)))
        numbers = [5, 3]
        cloud = cloud_of(SPACE, numbers)
        self.assertEqual(numbers, [5, 3])
        numbers.append(4)
        self.assertEqual(cloud.row, (3, 5))

    def test_no_points(self):
        for thing in ([0, 0], (0, 4), (0, -1), (0, True), (0,), (0, 0, 0), None, "00", {}):
            self.wrong(thing, Cloud, SPACE, [thing])
            self.wrong(thing, Cloud, SPACE, [(0, 0), thing, (0, 0)])

    def test_points_that_stand_there_twice(self):
        self.wrong((1, 1), Cloud, SPACE, [(1, 1), (1, 1)])
        self.wrong((1, 1), Cloud, SPACE, [(0, 0), (1, 1), (2, 2), (1, 1), (2, 2), (9, 9)])
        self.wrong((9, 9), Cloud, SPACE, ((0, 0), (9, 9), (0, 0)))

    def test_alike(self):
        self.assertTrue(Cloud(SPACE, SHEEP) == Cloud(SPACE, SHEEP[::-1]))
        self.assertFalse(Cloud(SPACE, SHEEP) != Cloud(SPACE, SHEEP[::-1]))
        for other in (Cloud(SPACE, SHEEP[1:]), Cloud(SPACE, []), cloud_of(Space(1, 4), [0, 2, 15]), (0, 2, 15), None):
            self.assertFalse(Cloud(SPACE, SHEEP) == other)
            self.assertTrue(Cloud(SPACE, SHEEP) != other)

    def test_clouds_of_numbers(self):
        self.assertEqual(cloud_of(SPACE, [15, 0, 2]), Cloud(SPACE, SHEEP))
        self.assertEqual(cloud_of(SPACE, (2, 15, 0)), Cloud(SPACE, SHEEP))
        self.assertEqual(cloud_of(SPACE, ()), Cloud(SPACE, ()))

    def test_all_small_clouds(self):
        for dimensions, bits in ((1, 3), (3, 1)):
            space = Space(dimensions, bits)
            points = plain.points(dimensions, bits)
            prefixes = [(length, number) for length in range(4) for number in range(2 ** length)]
            for row in all_rows(3):
                cloud = Cloud(space, [points[number] for number in row[::-1]])
                self.assertEqual(cloud.row, row)
                self.assertEqual(cloud.points(), tuple(points[number] for number in row))
                self.assertEqual(cloud.many(), len(row))
                self.assertEqual([point for point in points if cloud.has(point)], list(cloud.points()))
                for length, number in prefixes:
                    self.assertEqual(cloud.count((length, number)), plain.counts(3, row, length)[number])

    def test_added_and_removed(self):
        space = Space(3, 1)
        points = plain.points(3, 1)
        for row, number in product(all_rows(3), range(8)):
            cloud = cloud_of(space, row)
            more, less = sorted(set(row) | {number}), sorted(set(row) - {number})
            if number in row:
                self.wrong(points[number], cloud.added, points[number])
                self.assertEqual(cloud.removed(points[number]).row, tuple(less))
            else:
                self.wrong(points[number], cloud.removed, points[number])
                self.assertEqual(cloud.added(points[number]).row, tuple(more))
            self.assertEqual(cloud.row, row)

    def test_added_and_removed_what_is_no_point(self):
        cloud = Cloud(SPACE, SHEEP)
        for thing in ([0, 0], (0, 4), (0, True), (0,), None):
            self.wrong(thing, cloud.added, thing)
            self.wrong(thing, cloud.removed, thing)

    def test_a_great_cloud(self):
        space = Space(3, 10)
        numbers = plain.unlike(3000, 5, 2 ** 30)
        cloud = Cloud(space, [space.point_of(number) for number in numbers])
        self.assertEqual(cloud.row, tuple(sorted(numbers)))
        self.assertEqual(cloud, cloud_of(space, numbers))
        self.assertEqual(cloud.many(), 3000)
        self.assertTrue(all(cloud.has(point) for point in cloud.points()))
        for prefix in ((0, 0), (1, 1), (5, 17), (12, 3333), (30, numbers[0]), (30, numbers[0] ^ 1)):
            first, last = (prefix[1] << 30 - prefix[0]), (prefix[1] + 1 << 30 - prefix[0])
            self.assertEqual(cloud.count(prefix), len([number for number in numbers if first <= number < last]))


class Views(unittest.TestCase):
    def test_by_hand(self):
        cloud = Cloud(SPACE, SHEEP)
        self.assertEqual(cloud.view(0), ((0, 3),))
        self.assertEqual(cloud.view(1), ((0, 2), (1, 1)))
        self.assertEqual(cloud.view(2), ((0, 2), (3, 1)))
        self.assertEqual(cloud.view(3), ((0, 1), (1, 1), (7, 1)))
        self.assertEqual(cloud.view(4), ((0, 1), (2, 1), (15, 1)))

    def test_all_small_clouds(self):
        for dimensions, bits in ((1, 3), (3, 1)):
            for row in all_rows(3):
                cloud = cloud_of(Space(dimensions, bits), row)
                for fineness in range(4):
                    self.assertEqual(cloud.view(fineness), plain.view(3, row, fineness))

    def test_no_points_and_all_points(self):
        for dimensions, bits in product(range(1, 4), range(1, 4)):
            space = Space(dimensions, bits)
            none, every = Cloud(space, []), Cloud(space, plain.points(dimensions, bits))
            for fineness in range(space.depth + 1):
                self.assertEqual(none.view(fineness), ())
                size = space.size((fineness, 0))
                self.assertEqual(every.view(fineness), tuple((number, size) for number in range(2 ** fineness)))

    def test_a_great_cloud(self):
        space = Space(3, 10)
        cloud = cloud_of(space, plain.unlike(2000, 6, 2 ** 30))
        self.assertEqual(cloud.view(0), ((0, 2000),))
        self.assertEqual(cloud.view(30), tuple((number, 1) for number in cloud.row))
        for fineness in (3, 11, 25):
            view = cloud.view(fineness)
            self.assertEqual(sum(count for _, count in view), 2000)
            self.assertEqual(view, tuple(((number, cloud.count((fineness, number))) for number, _ in view)))
            self.assertEqual(sorted(set(view)), list(view))


if __name__ == "__main__":
    unittest.main()
