"""Points [3], [4], [5]."""

import unittest
from itertools import product

from finecloud.errors import BadPoint, BadSpace
from finecloud.space import Box, Space, is_inside, prefixes_of
from tests import plain

SMALL = [(1, 1), (1, 2), (1, 3), (1, 4), (2, 1), (2, 2), (3, 1)]
NO_POINTS = ((0,), (0, 0, 0), (), [0, 0], (0, 4), (-1, 0), (0, True), (False, 0), (0, "1"), (0, None), (1.0, 0),
             (0, (1,)), "00", None, 3, (0, 10 ** 30))


def all_prefixes(space):
    return [(length, number) for length in range(space.depth + 1) for number in range(2 ** length)]


def points_of(space, prefix):
    """The points whose woven bits begin with the bits of a prefix."""
    rest = space.depth - prefix[0]
    return [point for point in plain.points(space.dimensions, space.bits)
            if plain.woven(point, space.bits) >> rest == prefix[1]]


def all_boxes(space):
    points = plain.points(space.dimensions, space.bits)
    for lows, highs in product(points, points):
        if all(low <= high for low, high in zip(lows, highs)):
            yield Box(space, lows, highs)


class Spaces(unittest.TestCase):
    def wrong(self, word, dimensions, bits):
        with self.assertRaises(BadSpace) as caught:
            Space(dimensions, bits)
        self.assertEqual(caught.exception.word, word)

    def test_attributes(self):
        for dimensions, bits in product(range(1, 4), range(1, 11)):
            space = Space(dimensions, bits)
            told = (space.dimensions, space.bits, space.depth, space.side)
            self.assertEqual(told, (dimensions, bits, dimensions * bits, 2 ** bits))

    def test_wrong_dimensions_come_first(self):
        for dimensions in (0, -1, 4, 100, True, False, None, "2", 2.0, (1,)):
            for bits in (1, 10, 0, 11, None):
                self.wrong("dimensions", dimensions, bits)

    def test_wrong_bits(self):
        for bits in (0, -1, 11, 1000, True, False, None, "2", 2.0, (1,)):
            for dimensions in (1, 2, 3):
                self.wrong("bits", dimensions, bits)

    def test_alike(self):
        self.assertTrue(Space(2, 3) == Space(2, 3))
        self.assertFalse(Space(2, 3) != Space(2, 3))
        for other in (Space(3, 2), Space(2, 2), Space(3, 3), (2, 3), None):
            self.assertFalse(Space(2, 3) == other)
            self.assertTrue(Space(2, 3) != other)

    def test_points(self):
        space = Space(2, 2)
        there = [thing for thing in product(range(-2, 6), repeat=2) if space.is_point(thing)]
        self.assertEqual(there, list(product(range(4), repeat=2)))
        for thing in NO_POINTS:
            self.assertIs(space.is_point(thing), False)

    def test_weaving_by_hand(self):
        self.assertEqual(Space(1, 3).woven((5,)), 5)
        self.assertEqual(Space(2, 2).woven((1, 0)), 0b0010)
        self.assertEqual(Space(2, 2).woven((0, 1)), 0b0001)
        self.assertEqual(Space(2, 2).woven((2, 0)), 0b1000)
        self.assertEqual(Space(3, 2).woven((1, 2, 3)), 0b011101)
        self.assertEqual(Space(3, 10).woven((1023, 1023, 1023)), 2 ** 30 - 1)
        self.assertEqual(Space(3, 10).woven((512, 0, 0)), 2 ** 29)
        self.assertEqual(Space(3, 10).woven((0, 0, 1)), 1)

    def test_weaving_of_all_points(self):
        for dimensions, bits in SMALL + [(2, 3), (3, 2)]:
            space = Space(dimensions, bits)
            points = plain.points(dimensions, bits)
            self.assertEqual([space.woven(point) for point in points], list(range(2 ** space.depth)))
            self.assertEqual([space.point_of(number) for number in range(2 ** space.depth)], points)

    def test_weaving_in_all_spaces(self):
        for dimensions, bits in product(range(1, 4), range(1, 11)):
            space = Space(dimensions, bits)
            for number in [0, 2 ** space.depth - 1] + plain.unlike(2, bits, 2 ** space.depth):
                point = space.point_of(number)
                self.assertIs(type(point), tuple)
                self.assertTrue(space.is_point(point))
                self.assertEqual(plain.woven(point, bits), number)
                self.assertEqual(space.woven(point), number)

    def test_weaving_no_point(self):
        for thing in NO_POINTS:
            with self.assertRaises(BadPoint) as caught:
                Space(2, 2).woven(thing)
            self.assertEqual(caught.exception.point, thing)


class Prefixes(unittest.TestCase):
    def test_what_is_a_prefix(self):
        for dimensions, bits in SMALL:
            space = Space(dimensions, bits)
            things = product(range(-1, space.depth + 3), range(-1, 2 ** space.depth + 2))
            self.assertEqual([thing for thing in things if space.is_prefix(thing)], all_prefixes(space))

    def test_what_is_no_prefix(self):
        for thing in ((), (0,), (0, 0, 0), [0, 0], (True, 0), (1, True), (1, False), (0, 1), (2, 4), (-1, 0), (5, 0),
                      (2, "1"), (None, 0), (1.0, 0), "00", None, 0, (10 ** 9, 0)):
            self.assertIs(Space(2, 2).is_prefix(thing), False)

    def test_sizes_and_cells(self):
        for dimensions, bits in SMALL:
            space = Space(dimensions, bits)
            for prefix in all_prefixes(space):
                points = points_of(space, prefix)
                lows, highs = space.cell(prefix)
                there = [point for point in plain.points(dimensions, bits)
                         if all(low <= part <= high for low, part, high in zip(lows, point, highs))]
                self.assertEqual(there, points)
                self.assertEqual(space.size(prefix), len(points))
                self.assertIn(lows, points)
                self.assertIn(highs, points)

    def test_cells_of_great_spaces(self):
        space = Space(3, 10)
        self.assertEqual(space.cell((0, 0)), ((0, 0, 0), (1023, 1023, 1023)))
        self.assertEqual(space.cell((1, 1)), ((512, 0, 0), (1023, 1023, 1023)))
        self.assertEqual(space.cell((2, 1)), ((0, 512, 0), (511, 1023, 1023)))
        self.assertEqual(space.cell((28, 0)), ((0, 0, 0), (0, 1, 1)))
        self.assertEqual(space.cell((30, 5)), ((1, 0, 1), (1, 0, 1)))
        self.assertEqual([space.size((length, 0)) for length in (0, 1, 29, 30)], [2 ** 30, 2 ** 29, 2, 1])

    def test_is_inside(self):
        space = Space(2, 2)
        kept = {prefix: set(points_of(space, prefix)) for prefix in all_prefixes(space)}
        for prefix, other in product(kept, kept):
            self.assertIs(is_inside(prefix, other), kept[prefix] <= kept[other])


class Boxes(unittest.TestCase):
    def wrong(self, point, lows, highs):
        with self.assertRaises(BadPoint) as caught:
            Box(Space(2, 2), lows, highs)
        self.assertEqual(caught.exception.point, point)

    def test_attributes(self):
        box = Box(Space(2, 2), (0, 1), (3, 1))
        self.assertEqual((box.space, box.lows, box.highs), (Space(2, 2), (0, 1), (3, 1)))

    def test_wrong_corners(self):
        for thing in NO_POINTS:
            self.wrong(thing, thing, (3, 3))
            self.wrong(thing, (0, 0), thing)
            self.wrong(thing, thing, (4, 4))
            self.wrong(thing, (3, 3), thing)

    def test_lows_above_highs(self):
        for lows, highs in (((1, 0), (0, 3)), ((0, 1), (3, 0)), ((3, 3), (2, 2))):
            self.wrong(highs, lows, highs)

    def test_holds_and_room(self):
        for dimensions, bits in ((1, 3), (2, 2), (3, 1)):
            space = Space(dimensions, bits)
            kept = {prefix: points_of(space, prefix) for prefix in all_prefixes(space)}
            for box in all_boxes(space):
                there = [point for point in kept[0, 0]
                         if all(low <= part <= high for low, part, high in zip(box.lows, point, box.highs))]
                self.assertEqual([point for point in kept[0, 0] if box.holds(point)], there)
                for prefix in kept:
                    self.assertEqual(box.room(prefix), len([point for point in kept[prefix] if point in there]))

    def test_rooms_of_a_great_box(self):
        box = Box(Space(3, 10), (1, 2, 3), (1000, 511, 700))
        self.assertEqual(box.room((0, 0)), 1000 * 510 * 698)
        self.assertEqual(box.room((1, 1)), 489 * 510 * 698)
        self.assertEqual(box.room((2, 1)), 0)
        self.assertEqual(box.room((30, 0)), 0)
        self.assertTrue(box.holds((1, 2, 3)) and box.holds((1000, 511, 700)))
        self.assertFalse(box.holds((0, 2, 3)) or box.holds((1000, 512, 700)) or box.holds((1, 2, 701)))


def least_lots(depth, length=0, number=0):
    """All sets of points (as bits of a number) that prefixes which don't meet make, and the fewest that do."""
    size = 2 ** (depth - length)
    found = {0: 0}
    if length < depth:
        lower = least_lots(depth, length + 1, 2 * number)
        upper = least_lots(depth, length + 1, 2 * number + 1)
        for one, other in product(lower, upper):
            found[one | other] = min(found.get(one | other, 2 ** depth), lower[one] + upper[other])
    found[(2 ** size - 1) << number * size] = 1
    return found


class FewestPrefixes(unittest.TestCase):
    def check_cover(self, space, box, prefixes):
        """Whether they ascend without meeting, are of the box alone, and have as many points as it has."""
        self.assertIs(type(prefixes), list)
        end = 0
        for prefix in prefixes:
            first = prefix[1] * space.size(prefix)
            self.assertGreaterEqual(first, end)
            end = first + space.size(prefix)
        self.assertEqual(sum(space.size(prefix) for prefix in prefixes), box.room((0, 0)))
        for lows, highs in map(space.cell, prefixes):
            self.assertTrue(box.holds(lows) and box.holds(highs))

    def test_fewest_for_all_boxes(self):
        for dimensions, bits in SMALL:
            space = Space(dimensions, bits)
            fewest = least_lots(space.depth)
            for box in all_boxes(space):
                prefixes = prefixes_of(box)
                self.check_cover(space, box, prefixes)
                lot = sum(2 ** plain.woven(point, bits) for point in points_of(space, (0, 0)) if box.holds(point))
                self.assertEqual(len(prefixes), fewest[lot])

    def test_no_halves_are_left_side_by_side(self):
        for dimensions, bits in ((1, 5), (2, 3), (3, 2)):
            space = Space(dimensions, bits)
            for box in list(all_boxes(space))[::7]:
                prefixes = prefixes_of(box)
                self.check_cover(space, box, prefixes)
                for length, number in prefixes:
                    self.assertFalse(length and (length, number ^ 1) in prefixes)

    def test_one_point_and_all_points(self):
        for dimensions, bits in product(range(1, 4), range(1, 11)):
            space = Space(dimensions, bits)
            lowest, highest = space.cell((0, 0))
            self.assertEqual(prefixes_of(Box(space, lowest, highest)), [(0, 0)])
            number = 2 ** space.depth // 3
            point = space.point_of(number)
            self.assertEqual(prefixes_of(Box(space, point, point)), [(space.depth, number)])

    def test_each_prefix_is_the_only_one_of_its_cell(self):
        space = Space(3, 10)
        for prefix in ((1, 0), (7, 100), (15, 12345), (29, 2 ** 29 - 1)):
            self.assertEqual(prefixes_of(Box(space, *space.cell(prefix))), [prefix])

    def test_great_boxes(self):
        space = Space(3, 10)
        for lows, highs in (((1, 1, 1), (62, 126, 510)), ((5, 500, 300), (300, 580, 340)),
                            ((0, 0, 0), (1023, 127, 0)), ((0, 0, 0), (1023, 511, 1023))):
            box = Box(space, lows, highs)
            prefixes = prefixes_of(box)
            self.check_cover(space, box, prefixes)
            self.assertEqual(len(set(prefixes)), len(prefixes))
            self.assertFalse(set((length, number ^ 1) for length, number in prefixes) & set(prefixes))


if __name__ == "__main__":
    unittest.main()
