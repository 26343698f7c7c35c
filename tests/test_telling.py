"""Point [44]."""

import unittest
from itertools import combinations, product

from finecloud.clouds import Cloud, cloud_of
from finecloud.errors import BadPoint
from finecloud.pieces import Knowledge, piece_of
from finecloud.space import Box, Space
from finecloud.telling import fewest_facts, is_enough
from tests import plain

EVERY = {depth: plain.AllClouds(depth) for depth in (1, 2, 3)}


def whole(space):
    return Box(space, *space.cell((0, 0)))


def wanted(space, box, fineness):
    return [(fineness, number) for number in range(2 ** fineness) if box.room((fineness, number))]


def told(cloud, knowledge, prefixes):
    """What a viewer knows who is told the counts of some prefixes more."""
    return knowledge.joined(Knowledge(cloud.space, {prefix: cloud.count(prefix) for prefix in prefixes}))


class Small(unittest.TestCase):
    """Small spaces, by looking at all clouds, and at all lots of facts."""

    def is_so(self, every, number, known, prefixes):
        """Whether all clouds that have the known counts of a cloud have its counts of some prefixes, too."""
        lot = every.told(number, known)
        return all(lot & ~every.having(prefix, every.count(number, prefix)) == 0 for prefix in prefixes)

    def check_fewest(self, space, number, known, box, fineness):
        every = EVERY[space.depth]
        cloud = cloud_of(space, every.row(number))
        seen = Knowledge(space, {prefix: cloud.count(prefix) for prefix in known})
        asked = wanted(space, box, fineness)
        self.assertIs(is_enough(seen, box, fineness), self.is_so(every, number, known, asked))
        facts = fewest_facts(cloud, seen, box, fineness)
        self.assertIs(type(facts), tuple)
        self.assertEqual(list(facts), sorted(set(facts)))
        self.assertFalse(set(facts) & set(known))
        self.assertTrue(self.is_so(every, number, list(known) + list(facts), asked))
        others = [prefix for prefix in every.prefixes if prefix not in known]
        # What fewer facts tell, more of them tell, too: so it is enough to look at lots of one less.
        if facts:
            for lot in combinations(others, len(facts) - 1):
                self.assertFalse(self.is_so(every, number, list(known) + list(lot), asked))

    def test_all_knowledge_of_two_and_four_points(self):
        for space in (Space(1, 1), Space(1, 2), Space(2, 1)):
            every = EVERY[space.depth]
            boxes = [Box(space, *corners) for corners in plain.boxes(space.dimensions, space.bits)]
            for number, known in product(every.numbers(), range(2 ** len(every.prefixes))):
                prefixes = [prefix for at, prefix in enumerate(every.prefixes) if known >> at & 1]
                for fineness in range(space.depth + 1):
                    box = boxes[(number + known + fineness) % len(boxes)]
                    self.check_fewest(space, number, prefixes, box, fineness)

    def test_some_knowledge_of_eight_points(self):
        for space in (Space(1, 3), Space(3, 1)):
            boxes = [Box(space, *corners) for corners in plain.boxes(space.dimensions, space.bits)]
            for seed in range(700):
                number, at, *places = plain.unlike(2 + seed % 9, seed, 2 ** 20)
                known = sorted({EVERY[3].prefixes[place % 15] for place in places})
                box = boxes[at % len(boxes)] if seed % 3 else whole(space)
                self.check_fewest(space, number % 256, known, box, at // 64 % 4)

    def test_all_clouds_of_eight_points_without_facts(self):
        for number in EVERY[3].numbers()[::2]:
            for fineness in (2, 3):
                self.check_fewest(Space(1, 3), number, [], whole(Space(1, 3)), fineness)


class Facts(unittest.TestCase):
    def test_example(self):
        space = Space(1, 3)
        cloud = Cloud(space, [(5,)])
        facts = fewest_facts(cloud, Knowledge(space, {}), whole(space), 3)
        self.assertEqual(len(facts), 2)
        self.assertTrue(is_enough(told(cloud, Knowledge(space, {}), facts), whole(space), 3))
        self.assertEqual(fewest_facts(cloud, Knowledge(space, {(0, 0): 1}), whole(space), 3), ((3, 5),))

    def test_by_hand(self):
        space = Space(2, 2)
        sheep = Cloud(space, [(0, 0), (1, 0), (3, 3)])
        none = Knowledge(space, {})
        self.assertEqual(fewest_facts(sheep, none, whole(space), 0), ((0, 0),))
        self.assertEqual(fewest_facts(sheep, none, Box(space, (1, 1), (1, 1)), 4), ((4, 3),))
        self.assertEqual(len(fewest_facts(sheep, none, whole(space), 1)), 2)
        self.assertEqual(fewest_facts(Cloud(space, ()), none, whole(space), 4), ((0, 0),))
        self.assertEqual(fewest_facts(Cloud(space, plain.points(2, 2)), none, whole(space), 4), ((0, 0),))

    def test_nothing_left_to_tell(self):
        space = Space(2, 2)
        sheep = Cloud(space, [(0, 0), (1, 0), (3, 3)])
        for facts in (piece_of(sheep, (0, 0), 4), {(4, number): sheep.count((4, number)) for number in range(16)}):
            seen = Knowledge(space, facts)
            for fineness in range(5):
                self.assertEqual(fewest_facts(sheep, seen, whole(space), fineness), ())
                self.assertTrue(is_enough(seen, whole(space), fineness))
        self.assertEqual(fewest_facts(sheep, Knowledge(space, {(1, 0): 2}), Box(space, (0, 0), (1, 3)), 1), ())
        self.assertEqual(fewest_facts(Cloud(space, ()), Knowledge(space, {(0, 0): 0}), whole(space), 4), ())

    def test_wrong_finenesses(self):
        for dimensions, bits in ((1, 1), (2, 2), (3, 10)):
            space = Space(dimensions, bits)
            cloud = cloud_of(space, (0, 1))
            for fineness in (-1, space.depth + 1, 10 ** 30, True, False, None, "1", 1.0, (1,)):
                for facts in ({}, {(0, 0): 2}):
                    with self.assertRaises(BadPoint) as caught:
                        fewest_facts(cloud, Knowledge(space, facts), whole(space), fineness)
                    self.assertEqual(caught.exception.point, fineness)
            for fineness in (0, space.depth):
                self.assertGreaterEqual(len(fewest_facts(cloud, Knowledge(space, {}), whole(space), fineness)), 1)


class Great(unittest.TestCase):
    def check_needed(self, cloud, seen, box, fineness, step=1):
        """Whether the facts are enough, new, and each of them is needed."""
        facts = fewest_facts(cloud, seen, box, fineness)
        self.assertEqual(list(facts), sorted(set(facts)))
        self.assertFalse(set(facts) & set(seen.facts))
        enough = told(cloud, seen, facts)
        self.assertTrue(is_enough(enough, box, fineness))
        self.assertEqual(fewest_facts(cloud, enough, box, fineness), ())
        for at in range(0, len(facts), step):
            less = told(cloud, seen, facts[:at] + facts[at + 1:])
            self.assertFalse(is_enough(less, box, fineness))
            self.assertEqual(len(fewest_facts(cloud, less, box, fineness)), 1)
        return facts

    def test_greater_spaces(self):
        for dimensions, bits, many in ((1, 6, 20), (2, 4, 40), (3, 3, 100), (2, 6, 3000), (3, 10, 200)):
            space = Space(dimensions, bits)
            cloud = cloud_of(space, plain.unlike(many, 17, 2 ** space.depth))
            part = Box(space, (1,) * dimensions, (space.side * 2 // 3,) * dimensions)
            pieces = {**piece_of(cloud, (0, 0), 2), **piece_of(cloud, (3, 1), 3)}
            for facts in ({}, {(0, 0): many}, pieces, {(space.depth, cloud.row[0]): 1}):
                for box, fineness in product((part, whole(space)), (3, 6)):
                    seen = Knowledge(space, facts)
                    prefixes = self.check_needed(cloud, seen, box, fineness, 5)
                    known = told(cloud, seen, prefixes)
                    for prefix in wanted(space, box, fineness):
                        self.assertEqual(known.known(prefix), cloud.count(prefix))

    def test_enough_is_that_all_wanted_counts_are_known(self):
        space = Space(2, 4)
        cloud = cloud_of(space, plain.unlike(30, 18, 256))
        for seed in range(200):
            facts = plain.some(seed % 40, seed, plain.prefixes(6))
            seen = Knowledge(space, {prefix: cloud.count(prefix) for prefix in facts})
            for box, fineness in product((whole(space), Box(space, (8, 3), (12, 7)), Box(space, (9, 9), (9, 9))), (2, 4)):
                known = [seen.known(prefix) for prefix in wanted(space, box, fineness)]
                self.assertIs(is_enough(seen, box, fineness), None not in known)

    def test_finenesses_of_many_prefixes(self):
        space = Space(2, 6)
        cloud = cloud_of(space, plain.unlike(900, 19, 4096))
        for fineness, box in ((9, whole(space)), (12, whole(space)), (12, Box(space, (5, 6), (40, 50)))):
            facts = self.check_needed(cloud, Knowledge(space, {(1, 0): cloud.count((1, 0))}), box, fineness, 100)
            self.assertLessEqual(len(facts), len(wanted(space, box, fineness)))

    def test_the_finest_of_the_greatest_space(self):
        space = Space(3, 10)
        cloud = cloud_of(space, plain.unlike(7, 20, 2 ** 30))
        facts = self.check_needed(cloud, Knowledge(space, {}), whole(space), 30)
        self.assertEqual(len(facts), 8)
        seen = Knowledge(space, {(0, 0): 7, (30, cloud.row[3]): 1})
        self.assertEqual(len(self.check_needed(cloud, seen, whole(space), 30)), 6)
        full = cloud_of(space, range(2 ** 17, 2 ** 18))
        self.assertEqual(len(fewest_facts(full, Knowledge(space, {}), whole(space), 30)), 2)


if __name__ == "__main__":
    unittest.main()
