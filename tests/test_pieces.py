"""Points [14], [15]."""

import unittest
from itertools import combinations, product

from finecloud.balls import Ball, Lone
from finecloud.clouds import Cloud, cloud_of
from finecloud.errors import BadPiece
from finecloud.pieces import Knowledge, piece_of
from finecloud.space import Box, Space
from tests import plain

SPACE = Space(2, 2)
SHEEP = Cloud(SPACE, [(0, 0), (1, 0), (3, 3)])
FOUR = plain.AllClouds(2)
EIGHT = plain.AllClouds(3)
FOURS = (Space(1, 2), Space(2, 1))
EIGHTS = (Space(1, 3), Space(3, 1))


def facts_of_four():
    """All facts about four points: of each prefix no count, or any from 0 to its size."""
    counts = [[None] + list(range(2 ** (2 - length) + 1)) for length, _ in FOUR.prefixes]
    for row in product(*counts):
        yield {prefix: count for prefix, count in zip(FOUR.prefixes, row) if count is not None}


def facts_of_eight(many):
    """Some facts about eight points, as some cloud has them or one off, with the lot of the clouds that have them."""
    for seed in range(many):
        facts = EIGHT.mixed(seed % 9, seed)
        if all(count <= 2 ** (3 - length) for (length, _), count in facts.items()):
            yield facts, EIGHT.lot(facts)


def regions(space):
    """Boxes, balls and lone points of a small space, with their points as bits."""
    points = plain.points(space.dimensions, space.bits)
    found = [Box(space, lows, highs) for lows, highs in plain.boxes(space.dimensions, space.bits)]
    found += [Lone(space, point) for point in points]
    for centre in points:
        squares = {plain.square(centre, point) for point in points}
        found += [Ball(space, centre, square) for square in {-1} | squares]
    return [(region, sum(2 ** number for number, point in enumerate(points) if region.holds(point)))
            for region in found]


class Pieces(unittest.TestCase):
    def test_by_hand(self):
        self.assertEqual(piece_of(SHEEP, (0, 0), 0), {(0, 0): 3})
        self.assertEqual(piece_of(SHEEP, (0, 0), 1), {(0, 0): 3, (1, 0): 2, (1, 1): 1})
        told = {(2, 3): 1, (3, 6): 0, (3, 7): 1, (4, 12): 0, (4, 13): 0, (4, 14): 0, (4, 15): 1}
        self.assertEqual(piece_of(SHEEP, (2, 3), 2), told)
        self.assertEqual(piece_of(SHEEP, (2, 3), 7), told)
        self.assertEqual(piece_of(SHEEP, (4, 15), 3), {(4, 15): 1})
        self.assertIs(type(piece_of(SHEEP, (1, 1), 1)), dict)

    def test_all_small_clouds(self):
        for space, cloud in product(EIGHTS, EIGHT.numbers()):
            made = cloud_of(space, EIGHT.row(cloud))
            for prefix, deeper in product(EIGHT.prefixes[::2], range(5)):
                inside = {(length, number): EIGHT.count(cloud, (length, number)) for length, number in EIGHT.prefixes
                          if prefix[0] <= length <= prefix[0] + deeper and number >> length - prefix[0] == prefix[1]}
                self.assertEqual(piece_of(made, prefix, deeper), inside)

    def test_great_spaces(self):
        space = Space(3, 10)
        cloud = cloud_of(space, plain.unlike(500, 1, 2 ** 30))
        piece = piece_of(cloud, (0, 0), 10)
        self.assertEqual(len(piece), 2047)
        for length in range(11):
            self.assertEqual(sum(count for prefix, count in piece.items() if prefix[0] == length), 500)
        length, number = prefix = (29, cloud.row[7] // 2)
        halves = {(30, 2 * number): cloud.count((30, 2 * number)), (30, 2 * number + 1): cloud.count((30, 2 * number + 1))}
        self.assertEqual(piece_of(cloud, prefix, 10 ** 9), {prefix: cloud.count(prefix), **halves})


class Facts(unittest.TestCase):
    def wrong(self, space, facts):
        with self.assertRaises(BadPiece) as caught:
            Knowledge(space, facts)
        self.assertIn(caught.exception.prefix, facts)

    def test_attributes(self):
        handed = {(0, 0): 3, (2, 1): 0}
        seen = Knowledge(SPACE, handed)
        handed[1, 0] = 5
        self.assertEqual((seen.space, seen.facts), (SPACE, {(0, 0): 3, (2, 1): 0}))
        self.assertEqual(Knowledge(SPACE, {}).facts, {})

    def test_alike(self):
        self.assertTrue(Knowledge(SPACE, {(0, 0): 3, (2, 1): 0}) == Knowledge(Space(2, 2), {(2, 1): 0, (0, 0): 3}))
        self.assertFalse(Knowledge(SPACE, {(0, 0): 3}) != Knowledge(SPACE, {(0, 0): 3}))
        for other in (Knowledge(SPACE, {(0, 0): 2}), Knowledge(SPACE, {}), Knowledge(Space(1, 4), {(0, 0): 3}), None,
                      Knowledge(SPACE, {(0, 0): 3, (1, 0): 3}), {(0, 0): 3}):
            self.assertFalse(Knowledge(SPACE, {(0, 0): 3}) == other)
            self.assertTrue(Knowledge(SPACE, {(0, 0): 3}) != other)

    def test_keys_that_are_no_prefix(self):
        for thing in ((), (0,), (0, 0, 0), (1, 2), (-1, 0), (5, 0), (1, -1), (1, True), (True, 0), (2, "1"), (None, 0),
                      "00", None, 0, (2, 1.0)):
            self.wrong(SPACE, {thing: 0})
            self.wrong(SPACE, {(0, 0): 3, thing: 1})

    def test_values_that_are_no_count(self):
        for prefix in ((0, 0), (2, 3), (4, 15)):
            size = SPACE.size(prefix)
            for thing in (-1, size + 1, 10 ** 30, True, False, None, "1", 1.0, (1,)):
                self.wrong(SPACE, {prefix: thing})
            for count in (0, size):
                self.assertEqual(Knowledge(SPACE, {prefix: count}).facts, {prefix: count})

    def test_contradictions(self):
        self.wrong(SPACE, {(0, 0): 3, (1, 0): 2, (1, 1): 2})
        self.wrong(SPACE, {(0, 0): 3, (1, 0): 2, (1, 1): 0})
        self.wrong(SPACE, {(0, 0): 3, (3, 2): 2, (3, 7): 2})
        self.wrong(SPACE, {(1, 1): 7, (3, 7): 0})
        self.wrong(SPACE, {(0, 0): 10, (1, 0): 1})
        self.wrong(SPACE, {(1, 1): 4, (2, 2): 4, (4, 15): 1})
        self.assertEqual(Knowledge(SPACE, {(0, 0): 9, (1, 0): 1}).known((1, 1)), 8)

    def test_facts_are_refused_exactly_if_no_cloud_has_them(self):
        for at, facts in enumerate(facts_of_four()):
            space = FOURS[at % 2]
            if FOUR.lot(facts):
                self.assertEqual(Knowledge(space, facts).facts, facts)
            else:
                self.wrong(space, facts)

    def test_facts_about_eight_points(self):
        refused = 0
        for facts, lot in facts_of_eight(3000):
            for space in EIGHTS:
                if lot:
                    self.assertEqual(Knowledge(space, facts).facts, facts)
                else:
                    self.wrong(space, facts)
                    refused += 1
        self.assertGreater(refused, 200)

    def test_great_spaces(self):
        space = Space(3, 10)
        cloud = cloud_of(space, plain.unlike(40, 2, 2 ** 30))
        piece = piece_of(cloud, (0, 0), 9)
        self.assertEqual(Knowledge(space, piece).facts, piece)
        self.wrong(space, {**piece, (30, cloud.row[0]): 1, (12, cloud.row[0] >> 18): 0})
        self.wrong(space, {(0, 0): 40, **{(30, number): 1 for number in cloud.row}, (30, 12345): 1})


class Joined(unittest.TestCase):
    def test_in_any_order_and_some_twice(self):
        pieces = [piece_of(SHEEP, (2, 0), 1), piece_of(SHEEP, (1, 1), 0), piece_of(SHEEP, (1, 0), 1), {(0, 0): 3}]
        whole = Knowledge(SPACE, {prefix: count for piece in pieces for prefix, count in piece.items()})
        for order in product(range(4), repeat=5):
            seen = Knowledge(SPACE, {})
            for at in order:
                seen = seen.joined(Knowledge(SPACE, pieces[at]))
            facts = {prefix: count for at in order for prefix, count in pieces[at].items()}
            self.assertEqual(seen.facts, facts)
            self.assertTrue(seen == Knowledge(SPACE, facts))
            self.assertEqual(seen == whole, len(set(order)) == 4)

    def test_both_stay_as_they_are(self):
        one, other = Knowledge(SPACE, {(0, 0): 3}), Knowledge(SPACE, {(1, 0): 2})
        self.assertEqual(one.joined(other), other.joined(one))
        self.assertEqual((one.facts, other.facts), ({(0, 0): 3}, {(1, 0): 2}))

    def test_what_no_cloud_has(self):
        for one, other in (({(0, 0): 3}, {(0, 0): 2}), ({(1, 0): 2, (0, 0): 3}, {(1, 1): 0}),
                           ({(2, 0): 4}, {(1, 0): 3}), ({(4, 0): 1}, {(4, 0): 0})):
            for first, second in ((one, other), (other, one)):
                with self.assertRaises(BadPiece) as caught:
                    Knowledge(SPACE, first).joined(Knowledge(SPACE, second))
                self.assertIn(caught.exception.prefix, {**first, **second})

    def test_joins_of_all_facts_of_halves(self):
        halves = [facts for facts in facts_of_four() if len(facts) <= 2 and FOUR.lot(facts)]
        for one, other in list(product(halves, halves))[::7]:
            lot = FOUR.lot(one) & FOUR.lot(other)
            if lot:
                joined = Knowledge(FOURS[0], one).joined(Knowledge(FOURS[0], other))
                self.assertEqual(joined.facts, {**one, **other})
            else:
                with self.assertRaises(BadPiece):
                    Knowledge(FOURS[0], one).joined(Knowledge(FOURS[0], other))


class Bounds(unittest.TestCase):
    def check_bounds(self, seen, clouds, region, points):
        counts = [bin(cloud & points).count("1") for cloud in clouds]
        self.assertEqual(seen.bounds(region), (min(counts), max(counts)))

    def check_some_cloud(self, seen, lot, region, points):
        for is_most, bound in zip((False, True), seen.bounds(region)):
            cloud = seen.some_cloud(region, is_most)
            self.assertEqual(cloud.space, seen.space)
            self.assertEqual(sorted(set(cloud.row)), list(cloud.row))
            number = sum(2 ** place for place in cloud.row)
            self.assertTrue(lot >> number & 1)
            self.assertEqual(bin(number & points).count("1"), bound)

    def check_known(self, every, seen, lot):
        for prefix in every.prefixes:
            self.assertEqual(seen.known(prefix), every.known(lot, prefix))

    def test_by_hand(self):
        none = Knowledge(SPACE, {})
        box = Box(SPACE, (0, 0), (2, 1))
        self.assertEqual(none.bounds(box), (0, 6))
        self.assertEqual(Knowledge(SPACE, {(0, 0): 3}).bounds(box), (0, 3))
        self.assertEqual(Knowledge(SPACE, {(0, 0): 12}).bounds(box), (2, 6))
        self.assertEqual(Knowledge(SPACE, {(0, 0): 3, (2, 0): 2}).bounds(box), (2, 3))
        self.assertEqual(Knowledge(SPACE, {(2, 0): 1, (2, 2): 3}).bounds(box), (2, 3))
        self.assertEqual([none.known(prefix) for prefix in ((0, 0), (2, 1), (4, 3))], [None] * 3)
        seen = Knowledge(SPACE, {(0, 0): 3, (1, 0): 3, (3, 0): 2})
        self.assertEqual([seen.known(prefix) for prefix in ((1, 1), (4, 9), (4, 1), (3, 0), (3, 1))], [0, 0, 1, 2, None])
        halves = Knowledge(SPACE, {(1, 0): 2, (1, 1): 8})
        self.assertEqual([halves.known(prefix) for prefix in ((0, 0), (4, 15), (2, 1))], [10, 1, None])

    def test_all_facts_about_four_points(self):
        for space in FOURS:
            there = regions(space)
            for at, facts in enumerate(facts_of_four()):
                lot = FOUR.lot(facts)
                if lot:
                    seen, clouds = Knowledge(space, facts), FOUR.of_lot(lot)
                    for region, points in there[at % 3::3]:
                        self.check_bounds(seen, clouds, region, points)
                    self.check_some_cloud(seen, lot, *there[at % len(there)])
                    self.check_known(FOUR, seen, lot)

    def test_facts_about_eight_points(self):
        for space in EIGHTS:
            there = regions(space)
            for at, (facts, lot) in enumerate(facts_of_eight(700)):
                if lot:
                    seen, clouds = Knowledge(space, facts), EIGHT.of_lot(lot)
                    for region, points in there[at % 17::17]:
                        self.check_bounds(seen, clouds, region, points)
                        self.check_some_cloud(seen, lot, region, points)
                    self.check_known(EIGHT, seen, lot)

    def test_regions_of_any_kind(self):
        class Odd:
            """The points whose coordinates add up to an odd number."""

            def holds(self, point):
                return sum(point) % 2 == 1

            def room(self, prefix):
                lows, highs = SPACE.cell(prefix)
                return sum(self.holds(point) for point in product(*(range(low, high + 1)
                                                                    for low, high in zip(lows, highs))))

        points = plain.points(2, 2)
        odd = sum(2 ** number for number, point in enumerate(points) if sum(point) % 2)
        for facts in ({}, {(0, 0): 3}, {(0, 0): 12}, {(2, 0): 2, (0, 0): 13, (4, 7): 1}, piece_of(SHEEP, (0, 0), 4)):
            seen = Knowledge(SPACE, facts)
            least, most = seen.bounds(Odd())
            for is_most, bound in ((False, least), (True, most)):
                cloud = seen.some_cloud(Odd(), is_most)
                self.assertEqual({prefix: cloud.count(prefix) for prefix in facts}, facts)
                self.assertEqual(sum(odd >> number & 1 for number in cloud.row), bound)

    def test_everything_told(self):
        seen = Knowledge(SPACE, piece_of(SHEEP, (0, 0), 4))
        for prefix in plain.prefixes(4):
            self.assertEqual(seen.known(prefix), SHEEP.count(prefix))
        for lows, highs in plain.boxes(2, 2):
            box = Box(SPACE, lows, highs)
            many = sum(box.holds(point) for point in SHEEP.points())
            self.assertEqual(seen.bounds(box), (many, many))
        for is_most in (False, True):
            self.assertEqual(seen.some_cloud(Box(SPACE, (0, 0), (3, 3)), is_most), SHEEP)

    def test_the_greatest_depth_of_some_cloud(self):
        space = Space(3, 4)
        cloud = cloud_of(space, plain.unlike(300, 3, 2 ** 12))
        box = Box(space, (1, 2, 3), (9, 14, 7))
        for facts in ({}, piece_of(cloud, (0, 0), 5), {(0, 0): 300, (5, 3): cloud.count((5, 3))}):
            seen = Knowledge(space, facts)
            for is_most, bound in zip((False, True), seen.bounds(box)):
                made = seen.some_cloud(box, is_most)
                self.assertEqual({prefix: made.count(prefix) for prefix in facts}, facts)
                self.assertEqual(sum(box.holds(point) for point in made.points()), bound)

    def test_great_spaces(self):
        space = Space(3, 10)
        cloud = cloud_of(space, plain.unlike(40, 4, 2 ** 30))
        seen = Knowledge(space, piece_of(cloud, (0, 0), 6))
        whole = Box(space, (0, 0, 0), (1023, 1023, 1023))
        self.assertEqual(seen.bounds(whole), (40, 40))
        for prefix in ((1, 1), (3, 5), (6, 60)):
            self.assertEqual(seen.bounds(Box(space, *space.cell(prefix))), (cloud.count(prefix),) * 2)
            self.assertEqual(seen.known(prefix), cloud.count(prefix))
        for lows, highs in (((3, 4, 5), (700, 600, 500)), ((500, 0, 0), (1023, 1023, 1000))):
            box = Box(space, lows, highs)
            least, most = seen.bounds(box)
            self.assertLessEqual(least, sum(box.holds(point) for point in cloud.points()))
            self.assertGreaterEqual(most, sum(box.holds(point) for point in cloud.points()))
            cells = [(cloud.count((6, number)), box.room((6, number))) for number in range(64)]
            self.assertEqual((least, most), (sum(count for count, room in cells if room == 2 ** 24),
                                             sum(count for count, room in cells if room > 0)))
        ball = Ball(space, (512, 512, 512), 300 ** 2)
        self.assertEqual(Knowledge(space, {}).bounds(ball), (0, ball.room((0, 0))))
        self.assertEqual(Knowledge(space, {(0, 0): 2 ** 30 - 5}).bounds(ball), (ball.room((0, 0)) - 5, ball.room((0, 0))))


class Rests(unittest.TestCase):
    def test_rests_dont_meet_and_are_all_places(self):
        for facts, lot in facts_of_eight(400):
            if lot:
                seen = Knowledge(Space(1, 3), facts)
                self.assertLessEqual(len(seen.rests), len(facts) + 1)
                places = [number for rest in seen.rests.values() for length, first in rest.parts()
                          for number in range(first << 3 - length, first + 1 << 3 - length)]
                self.assertEqual(sorted(places), list(range(8)))
                for prefix, rest in seen.rests.items():
                    self.assertEqual(rest.places, sum(2 ** (3 - length) for length, _ in rest.parts()))
                    self.assertEqual(rest.left is None, prefix not in facts)
                    self.assertTrue(rest.left is None or 0 <= rest.left <= rest.places)

    def test_all_pairs_of_parts_could_not_be_one(self):
        for facts, lot in facts_of_eight(200):
            if lot:
                for rest in Knowledge(Space(1, 3), facts).rests.values():
                    for (length, number), other in combinations(rest.parts(), 2):
                        self.assertNotEqual((length, number ^ 1), other)


if __name__ == "__main__":
    unittest.main()
