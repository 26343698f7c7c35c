"""Points [42], [43]."""

import unittest
from itertools import product

from finecloud.asking import nearest_plain
from finecloud.certain import is_possible, is_sure, nearest_bounds
from finecloud.clouds import cloud_of
from finecloud.errors import BadPoint
from finecloud.pieces import Knowledge, piece_of
from finecloud.space import Space
from tests import plain

NO_POINTS = ((0,), (0, 0, 0), (), [0, 0], (0, 4), (-1, 0), (0, True), (0, "1"), (1.0, 0), "00", None, 3)
SEEN = Knowledge(Space(1, 3), {(0, 0): 3, (1, 0): 1, (3, 2): 0})


class Small:
    """A small space with all of its clouds: what is asked is worked out by looking at each cloud."""

    def __init__(self, space):
        self.space = space
        self.every = plain.AllClouds(space.depth)
        self.points = plain.points(space.dimensions, space.bits)
        # For each centre, the points' numbers ascending by their squares, with these.
        self.ordered = {centre: sorted((plain.square(centre, point), number) for number, point in enumerate(self.points))
                        for centre in self.points}

    def squares(self, cloud, centre):
        return [square for square, number in self.ordered[centre] if cloud >> number & 1]

    def nearest_bounds(self, clouds, centre, many):
        rows = [self.squares(cloud, centre) for cloud in clouds]
        there = [row[many - 1] for row in rows if len(row) >= many]
        return min(there, default=None), max(there) if len(there) == len(rows) else None

    def nearest_ones(self, cloud, centre):
        """The lot of the points of a cloud that are nearest."""
        squares = self.squares(cloud, centre)
        return {number for square, number in self.ordered[centre] if cloud >> number & 1 and square == squares[0]}


def small_facts(small, many):
    """Some facts that some clouds of a small space have, with these clouds."""
    found = [({}, list(small.every.numbers()))]
    for seed in range(many):
        facts = small.every.mixed(seed % 8, 1000 + seed)
        if all(count <= small.space.size(prefix) for prefix, count in facts.items()) and small.every.lot(facts):
            found.append((facts, small.every.of_lot(small.every.lot(facts))))
    return found


SMALL = [(Small(Space(*told)), many) for told, many in (((1, 1), 30), ((1, 2), 60), ((2, 1), 60), ((1, 3), 60), ((3, 1), 60))]


class Bounds(unittest.TestCase):
    def wrong(self, thing, knowledge, centre, many):
        with self.assertRaises(BadPoint) as caught:
            nearest_bounds(knowledge, centre, many)
        self.assertEqual(caught.exception.point, thing)
        self.assertIs(type(caught.exception.point), type(thing))

    def test_example(self):
        told = tuple(nearest_bounds(SEEN, (2,), many) for many in (1, 2, 4))
        self.assertEqual(told, ((1, 4), (4, 16), (None, None)))
        self.assertIs(type(told[0]), tuple)

    def test_all_clouds_of_small_spaces(self):
        for small, many in SMALL:
            for facts, clouds in small_facts(small, many):
                seen = Knowledge(small.space, facts)
                for centre in small.points[::3] + small.points[-1:]:
                    for asked in range(1, len(small.points) + 1):
                        told = small.nearest_bounds(clouds, centre, asked)
                        self.assertEqual(nearest_bounds(seen, centre, asked), told)

    def test_no_facts(self):
        none = Knowledge(Space(2, 2), {})
        self.assertEqual(nearest_bounds(none, (0, 0), 1), (0, None))
        self.assertEqual(nearest_bounds(none, (0, 0), 4), (2, None))
        self.assertEqual(nearest_bounds(none, (0, 0), 16), (18, None))

    def test_surely_too_few_and_surely_enough(self):
        space = Space(2, 2)
        self.assertEqual(nearest_bounds(Knowledge(space, {(0, 0): 0}), (1, 1), 1), (None, None))
        self.assertEqual(nearest_bounds(Knowledge(space, {(0, 0): 15}), (1, 1), 16), (None, None))
        self.assertEqual(nearest_bounds(Knowledge(space, {(0, 0): 16}), (1, 1), 16), (8, 8))
        self.assertEqual(nearest_bounds(Knowledge(space, {(2, 3): 1}), (3, 3), 1), (0, 2))
        self.assertEqual(nearest_bounds(Knowledge(space, {(2, 3): 1}), (3, 3), 2), (4, None))

    def test_wrong_things(self):
        for seen in (Knowledge(Space(2, 2), {}), Knowledge(Space(2, 2), {(0, 0): 2})):
            for centre in NO_POINTS:
                for many in (0, 1, 16, 17, None):
                    self.wrong(centre, seen, centre, many)
            for many in (0, -1, 17, 10 ** 30, True, False, None, "1", 1.0, (1,)):
                self.wrong(many, seen, (0, 0), many)

    def test_everything_told(self):
        space = Space(2, 3)
        cloud = cloud_of(space, plain.unlike(9, 14, 64))
        seen = Knowledge(space, piece_of(cloud, (0, 0), 6))
        for centre in plain.points(2, 3)[::5]:
            rows = nearest_plain(cloud, centre, 9)
            for many in range(1, 10):
                self.assertEqual(nearest_bounds(seen, centre, many), (rows[many - 1][0],) * 2)
            self.assertEqual(nearest_bounds(seen, centre, 10), (None, None))

    def test_great_spaces(self):
        space = Space(3, 10)
        cloud = cloud_of(space, plain.unlike(30, 15, 2 ** 30))
        for deeper in (0, 3, 6, 12):
            seen = Knowledge(space, piece_of(cloud, (0, 0), deeper))
            for centre, many in (((0, 0, 0), 1), ((500, 511, 512), 7), ((1023, 300, 20), 30)):
                least, greatest = nearest_bounds(seen, centre, many)
                square = nearest_plain(cloud, centre, many)[-1][0]
                self.assertLessEqual(least, square)
                self.assertLessEqual(square, greatest)
            self.assertEqual(nearest_bounds(seen, (7, 8, 9), 31), (None, None))
        self.assertEqual(nearest_bounds(Knowledge(space, {}), (9, 9, 9), 7), (1, None))


class Nearest(unittest.TestCase):
    def test_example(self):
        self.assertIs(is_possible(SEEN, (2,), (1,)), True)
        self.assertIs(is_possible(SEEN, (2,), (4,)), True)
        self.assertIs(is_sure(SEEN, (2,), (3,)), False)

    def test_all_clouds_of_small_spaces(self):
        for small, many in SMALL:
            for facts, clouds in small_facts(small, many):
                seen = Knowledge(small.space, facts)
                for centre in small.points[::3] + small.points[-1:]:
                    there = [small.nearest_ones(cloud, centre) for cloud in clouds]
                    possible, sure = set().union(*there), there[0].intersection(*there)
                    for number, point in enumerate(small.points):
                        self.assertIs(is_possible(seen, centre, point), number in possible)
                        self.assertIs(is_sure(seen, centre, point), number in sure)

    def test_a_point_first_then_a_centre(self):
        seen = Knowledge(Space(2, 2), {(0, 0): 2})
        for asked, wrong in product((is_possible, is_sure), NO_POINTS):
            for centre, point in (((0, 0), wrong), (wrong, (0, 0)), ((4, 4), wrong), (wrong, wrong)):
                with self.assertRaises(BadPoint) as caught:
                    asked(seen, centre, point)
                self.assertEqual(caught.exception.point, wrong)
            with self.assertRaises(BadPoint) as caught:
                asked(seen, wrong, (4, 4))
            self.assertEqual(caught.exception.point, (4, 4))

    def test_no_points(self):
        for facts, possible in (({}, True), ({(0, 0): 0}, False), ({(1, 0): 0}, False), ({(1, 1): 8}, True)):
            seen = Knowledge(Space(2, 2), facts)
            self.assertIs(is_possible(seen, (0, 0), (0, 0)), possible)
            self.assertIs(is_sure(seen, (0, 0), (0, 0)), False)

    def test_great_spaces(self):
        space = Space(3, 10)
        cloud = cloud_of(space, plain.unlike(30, 16, 2 ** 30))
        every = Knowledge(space, {(0, 0): 30, **{(30, number): 1 for number in cloud.row}})
        some = Knowledge(space, piece_of(cloud, (0, 0), 6))
        for centre in ((0, 0, 0), (512, 511, 512)):
            first, second = [point for _, point in nearest_plain(cloud, centre, 2)]
            self.assertEqual([is_possible(seen, centre, first) for seen in (every, some)], [True, True])
            self.assertEqual([is_sure(seen, centre, first) for seen in (every, some)], [True, False])
            self.assertEqual((is_possible(every, centre, second), is_sure(every, centre, second)), (False, False))


if __name__ == "__main__":
    unittest.main()
