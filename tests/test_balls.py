"""Point [40]."""

import unittest
from itertools import product
from math import isqrt

from finecloud.balls import Ball, Lone, greatest_square, halves_of, least_square, square_between
from finecloud.errors import BadPoint
from finecloud.space import Space
from tests import plain

SMALL = [(1, 1), (1, 3), (2, 1), (2, 2), (3, 1)]
NO_POINTS = ((0,), (0, 0, 0), (), [0, 0], (0, 4), (-1, 0), (0, True), (0, "1"), (1.0, 0), "00", None, 3)


def small_spaces():
    """Small spaces, their points, and those points that are of each prefix."""
    for dimensions, bits in SMALL:
        space = Space(dimensions, bits)
        points = plain.points(dimensions, bits)
        there = {(length, number): points[number << space.depth - length:number + 1 << space.depth - length]
                 for length, number in plain.prefixes(space.depth)}
        yield space, points, there


class Squares(unittest.TestCase):
    def test_by_hand(self):
        self.assertEqual(square_between((3,), (5,)), 4)
        self.assertEqual(square_between((0, 4), (3, 0)), 25)
        self.assertEqual(square_between((1023, 0, 5), (0, 1023, 5)), 2 * 1023 ** 2)
        self.assertEqual(square_between((7, 7), (7, 7)), 0)
        space = Space(2, 2)
        self.assertEqual([least_square(space, (0, 0), prefix) for prefix in ((0, 0), (1, 1), (2, 3), (4, 13))], [0, 4, 8, 13])
        self.assertEqual([greatest_square(space, (1, 0), prefix) for prefix in ((0, 0), (1, 1), (2, 0), (4, 2))],
                         [13, 13, 2, 0])

    def test_all_small_ones(self):
        for space, points, there in small_spaces():
            for one, other in product(points, points):
                self.assertEqual(square_between(one, other), plain.square(one, other))
            for centre, prefix in product(points, there):
                squares = [plain.square(centre, point) for point in there[prefix]]
                self.assertEqual(least_square(space, centre, prefix), min(squares))
                self.assertEqual(greatest_square(space, centre, prefix), max(squares))

    def test_great_spaces(self):
        space = Space(3, 10)
        self.assertEqual(greatest_square(space, (0, 0, 0), (0, 0)), 3 * 1023 ** 2)
        self.assertEqual(least_square(space, (511, 0, 700), (2, 3)), 1 + 512 ** 2)
        self.assertEqual(greatest_square(space, (511, 0, 700), (2, 3)), 512 ** 2 + 1023 ** 2 + 700 ** 2)

    def test_halves(self):
        self.assertEqual(halves_of((0, 0)), ((1, 0), (1, 1)))
        self.assertEqual(halves_of((3, 5)), ((4, 10), (4, 11)))
        for _, _, there in small_spaces():
            for prefix in there:
                if len(there[prefix]) > 1:
                    first, second = halves_of(prefix)
                    self.assertEqual(there[first] + there[second], there[prefix])


class Balls(unittest.TestCase):
    def test_no_points(self):
        for thing in NO_POINTS:
            for kind, told in ((Ball, (Space(2, 2), thing, 3)), (Lone, (Space(2, 2), thing))):
                with self.assertRaises(BadPoint) as caught:
                    kind(*told)
                self.assertEqual(caught.exception.point, thing)

    def test_all_small_balls(self):
        for space, points, there in small_spaces():
            for centre in points:
                for square in range(-1, greatest_square(space, centre, (0, 0)) + 2):
                    ball = Ball(space, centre, square)
                    within = [point for point in points if plain.square(centre, point) <= square]
                    self.assertEqual([point for point in points if ball.holds(point)], within)
                    for prefix in there:
                        self.assertEqual(ball.room(prefix), len(set(there[prefix]) & set(within)))

    def test_no_point_and_all_points(self):
        space = Space(3, 10)
        for square in (-1, -2, -10 ** 9):
            none = Ball(space, (4, 5, 6), square)
            self.assertFalse(none.holds((4, 5, 6)))
            self.assertEqual([none.room(prefix) for prefix in ((0, 0), (1, 0), (30, space.woven((4, 5, 6))))], [0, 0, 0])
        centre = Ball(space, (4, 5, 6), 0)
        self.assertEqual((centre.room((0, 0)), centre.holds((4, 5, 6)), centre.holds((4, 5, 7))), (1, True, False))
        for square in (3 * 1023 ** 2, 10 ** 12):
            whole = Ball(space, (0, 0, 0), square)
            self.assertTrue(whole.holds((1023, 1023, 1023)))
            self.assertEqual([whole.room(prefix) for prefix in ((0, 0), (1, 1), (30, 5))], [2 ** 30, 2 ** 29, 1])

    def test_great_balls_in_planes(self):
        space = Space(2, 10)
        for centre, square in (((0, 0), 1000 ** 2), ((300, 700), 123456), ((512, 511), 500 ** 2), ((1023, 5), 1500000)):
            room = 0
            for across in range(1024):
                left = square - (across - centre[0]) ** 2
                if left >= 0:
                    reach = isqrt(left)
                    room += min(1023, centre[1] + reach) - max(0, centre[1] - reach) + 1
            self.assertEqual(Ball(space, centre, square).room((0, 0)), room)

    def test_great_balls(self):
        space = Space(3, 10)
        ball = Ball(space, (400, 600, 500), 250 ** 2)
        rooms = [ball.room((length, number)) for length, number in plain.prefixes(6)]
        for at in range(63):
            self.assertEqual(rooms[at], rooms[2 * at + 1] + rooms[2 * at + 2])
        # Turned and mirrored balls that lie within the space have as many points.
        self.assertEqual(rooms[0], Ball(space, (500, 400, 600), 250 ** 2).room((0, 0)))
        self.assertEqual(rooms[0], Ball(space, (623, 423, 523), 250 ** 2).room((0, 0)))
        small = Ball(space, (512, 511, 512), 30)
        points = [point for point in product(range(506, 519), repeat=3) if plain.square((512, 511, 512), point) <= 30]
        self.assertEqual(small.room((0, 0)), len(points))
        for number in range(8):
            lows, highs = space.cell((3, number))
            there = [point for point in points if all(low <= part <= high for low, part, high in zip(lows, point, highs))]
            self.assertEqual(small.room((3, number)), len(there))

    def test_a_prefix_asked_twice(self):
        ball = Ball(Space(3, 4), (3, 4, 5), 30)
        rooms = [ball.room(prefix) for prefix in plain.prefixes(6)]
        self.assertEqual([ball.room(prefix) for prefix in plain.prefixes(6)], rooms)


class LonePoints(unittest.TestCase):
    def test_all_small_ones(self):
        for space, points, there in small_spaces():
            for one in points:
                lone = Lone(space, one)
                self.assertEqual([point for point in points if lone.holds(point)], [one])
                for prefix in there:
                    self.assertEqual(lone.room(prefix), there[prefix].count(one))

    def test_great_spaces(self):
        space = Space(3, 10)
        lone = Lone(space, (1000, 3, 500))
        number = space.woven((1000, 3, 500))
        self.assertEqual([lone.room((length, number >> 30 - length)) for length in range(31)], [1] * 31)
        self.assertEqual([lone.room((length, number >> 30 - length ^ 1)) for length in range(1, 31)], [0] * 30)


if __name__ == "__main__":
    unittest.main()
