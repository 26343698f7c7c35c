"""Points [1], [11], [12], and of [13] what it says of the lengths of beginnings."""

import unittest
from itertools import product
from math import comb

from finecloud.clouds import Cloud, cloud_of
from finecloud.errors import BadCode
from finecloud.progress import beginning, check_whole, code_of, read_code
from finecloud.ranks import all_clouds, completions
from finecloud.space import Space
from tests import plain

SMALL = [(1, 1), (1, 2), (2, 1), (1, 3), (3, 1)]


def small_lots():
    """All small spaces with each number of points, and the ordered rows of their clouds."""
    for dimensions, bits in SMALL:
        space = Space(dimensions, bits)
        for many in range(2 ** space.depth + 1):
            yield space, many, plain.ordered(space.depth, many)


def sums(view):
    """The view that is one level coarser."""
    counts = {}
    for number, count in view:
        counts[number // 2] = counts.get(number // 2, 0) + count
    return tuple(counts.items())


def coarser(view, times):
    for _ in range(times):
        view = sums(view)
    return view


class Wrong(unittest.TestCase):
    def wrong(self, many, action, *told):
        with self.assertRaises(BadCode) as caught:
            action(*told)
        self.assertEqual(caught.exception.many, many)


class LevelCodes(unittest.TestCase):
    def test_the_sheep(self):
        sheep = Cloud(Space(2, 2), [(0, 0), (1, 0), (3, 3)])
        self.assertEqual(code_of(sheep), ((1, 0), (1, 1, 0, 1), (0, 1), (1, 1, 0)))
        self.assertEqual(beginning(sheep, 2), (1, 0, 1, 1, 0, 1))
        self.assertEqual(beginning(sheep, 0), ())
        self.assertEqual(read_code(Space(2, 2), 3, (1, 0, 1, 1, 0, 1, 0)), (2, ((0, 2), (3, 1)), 6))

    def test_shortest_and_first_of_all_small_clouds(self):
        for space, many, ordered in small_lots():
            kept = {}
            for row in ordered:
                codes = []
                for fineness in range(space.depth):
                    view = plain.view(space.depth, row, fineness)
                    if (fineness, view) not in kept:
                        every, nexts = plain.shares(space.depth, ordered, fineness, view)
                        kept[fineness, view] = {finer: plain.level_code(*nexts[finer], every) for finer in nexts}
                    codes.append(kept[fineness, view][plain.view(space.depth, row, fineness + 1)])
                cloud = cloud_of(space, row)
                self.assertEqual(code_of(cloud), tuple(codes))
                for fineness in range(space.depth + 1):
                    self.assertEqual(beginning(cloud, fineness), sum(codes[:fineness], ()))

    def test_among_sixteen_points(self):
        space = Space(2, 2)
        for many in (1, 2, 14):
            ordered = plain.ordered(4, many)
            for row in ordered[::3]:
                for fineness, code in enumerate(code_of(cloud_of(space, row))):
                    every, nexts = plain.shares(4, ordered, fineness, plain.view(4, row, fineness))
                    low, share = nexts[plain.view(4, row, fineness + 1)]
                    self.assertEqual(code, plain.level_code(low, share, every))

    def test_nothing_to_tell(self):
        for dimensions, bits in product(range(1, 4), range(1, 4)):
            space = Space(dimensions, bits)
            for points in ([], plain.points(dimensions, bits)):
                self.assertEqual(code_of(Cloud(space, points)), ((),) * space.depth)

    def test_lengths_of_beginnings(self):
        for space, many, ordered in small_lots():
            for row in ordered:
                self.check_lengths(cloud_of(space, row))

    def test_lengths_of_great_beginnings(self):
        for dimensions, bits, many in ((3, 10, 1), (3, 10, 700), (2, 10, 300), (1, 10, 900)):
            space = Space(dimensions, bits)
            self.check_lengths(cloud_of(space, plain.unlike(many, 8, 2 ** space.depth)))

    def check_lengths(self, cloud):
        """2^b share < 4 all of each level but those of one next view; 2^b c <= 4^f all of each beginning."""
        space, length, before = cloud.space, 0, all_clouds(cloud.space, cloud.many())
        every = before
        for fineness, code in enumerate(code_of(cloud)):
            after = completions(space, fineness + 1, cloud.view(fineness + 1))
            if before == after:
                self.assertEqual(code, ())
            else:
                self.assertLess(2 ** len(code) * after, 4 * before)
            length += len(code)
            self.assertEqual(len(beginning(cloud, fineness + 1)), length)
            self.assertLessEqual(2 ** length * after, 4 ** (fineness + 1) * every)
            before = after


class Reading(Wrong):
    def test_views_are_read_from_beginnings_with_anything_behind(self):
        tails = [tail for length in range(5) for tail in product((0, 1), repeat=length)]
        tails += [(0,) * 40, (1,) * 40, (0, 1) * 20]
        for space, many, ordered in small_lots():
            for row in ordered[::1 + len(ordered) // 20]:
                cloud = cloud_of(space, row)
                for fineness in range(space.depth + 1):
                    bits = beginning(cloud, fineness)
                    for tail in tails:
                        told, view, used = read_code(space, many, bits + tail)
                        self.assertGreaterEqual(told, fineness)
                        self.assertEqual(coarser(view, told - fineness), cloud.view(fineness))
                        self.assertTrue(len(bits) <= used <= len(bits) + len(tail))

    def test_views_are_read_of_all_clouds(self):
        for space, many, ordered in small_lots():
            for row in ordered:
                cloud = cloud_of(space, row)
                whole = beginning(cloud, space.depth)
                for end in range(len(whole) + 1):
                    fineness, view, used = read_code(space, many, whole[:end])
                    self.assertEqual(view, cloud.view(fineness))
                    self.assertEqual(beginning(cloud, fineness), whole[:used])
                    self.assertTrue(fineness == space.depth or len(beginning(cloud, fineness + 1)) > end)

    def test_all_bits_as_the_plain_reader_does(self):
        for space, many, ordered in small_lots():
            if space.depth < 3 or space.dimensions == 3:
                for length in range(6):
                    for bits in product((0, 1), repeat=length):
                        self.assertEqual(read_code(space, many, bits), plain.read(space.depth, ordered, bits))

    def test_long_odd_bits_as_the_plain_reader_does(self):
        space = Space(1, 2)
        for many in range(5):
            ordered = plain.ordered(2, many)
            for start, step, tail in product(((), (0,), (1,)), ((0, 1), (1, 0), (0,), (1,)), ((), (0, 0), (1, 1), (1, 0, 0))):
                bits = start + step * 9 + tail
                self.assertEqual(read_code(space, many, bits), plain.read(2, ordered, bits))

    def test_bits_along_the_edge_of_a_share(self):
        # Of 2 points among 4 one sixth lies in the upper half, and 1/6 is .0010101..: such bits never tell.
        space = Space(1, 2)
        edge = (0, 0) + (1, 0) * 500
        self.assertEqual(read_code(space, 2, edge), (0, ((0, 2),), 0))
        self.assertEqual(read_code(space, 2, edge + (0, 0))[2], len(edge) + 1)
        self.assertEqual(read_code(space, 2, edge + (0, 0))[1], ((2, 1), (3, 1)))
        self.assertEqual(read_code(space, 2, edge + (1, 1))[:2], (1, ((0, 1), (1, 1))))
        self.assertEqual(read_code(space, 2, edge + (1, 1))[2], len(edge) + 2)

    def test_no_bits(self):
        self.assertEqual(read_code(Space(2, 2), 3, ()), (0, ((0, 3),), 0))
        self.assertEqual(read_code(Space(2, 2), 0, ()), (4, (), 0))
        self.assertEqual(read_code(Space(2, 2), 16, ()), (4, tuple((number, 1) for number in range(16)), 0))
        self.assertEqual(read_code(Space(2, 2), 0, (1, 0, 1)), (4, (), 0))

    def test_no_clouds_of_so_many_points(self):
        for many in (-1, 17, 10 ** 12):
            for bits in ((), (0,), (1, 1, 0)):
                self.wrong(0, read_code, Space(2, 2), many, bits)
                self.wrong(0, check_whole, Space(2, 2), many, bits)
        self.wrong(0, read_code, Space(3, 10), 2 ** 30 + 1, (1, 0))

    def test_bits_stay_as_they_are(self):
        bits = [1, 0, 1, 1, 0, 1, 0]
        self.assertEqual(read_code(Space(2, 2), 3, bits), (2, ((0, 2), (3, 1)), 6))
        self.assertEqual(bits, [1, 0, 1, 1, 0, 1, 0])

    def test_great_spaces(self):
        for dimensions, bits, many in ((1, 10, 500), (2, 10, 300), (3, 10, 1), (3, 10, 1200)):
            space = Space(dimensions, bits)
            cloud = cloud_of(space, plain.unlike(many, bits, 2 ** space.depth))
            whole = beginning(cloud, space.depth)
            self.assertLessEqual(len(whole), (comb(2 ** space.depth, many) - 1).bit_length() + 2 * space.depth)
            for tail in ((), (0, 1) * 3000):
                self.assertEqual(read_code(space, many, whole + tail), (space.depth, cloud.view(space.depth), len(whole)))
            for end in (1, len(whole) // 3, len(whole) - 1):
                fineness, view, used = read_code(space, many, whole[:end])
                self.assertEqual((view, whole[:used]), (cloud.view(fineness), beginning(cloud, fineness)))
                self.assertGreater(len(beginning(cloud, fineness + 1)), end)

    def test_some_great_beginnings_with_anything_behind(self):
        space = Space(3, 10)
        cloud = cloud_of(space, plain.unlike(200, 11, 2 ** 30))
        for fineness in (0, 1, 5, 17, 29):
            bits = beginning(cloud, fineness)
            for tail in ((0,) * 900, (1,) * 900, (1, 1, 0) * 300):
                told, view, used = read_code(space, 200, bits + tail)
                self.assertGreaterEqual(told, fineness)
                self.assertEqual(coarser(view, told - fineness), cloud.view(fineness))
                self.assertGreaterEqual(used, len(bits))


class Wholes(Wrong):
    def test_all_codes_and_cut_codes(self):
        for space, many, ordered in small_lots():
            for row in ordered:
                cloud = cloud_of(space, row)
                bits = beginning(cloud, space.depth)
                self.assertEqual(check_whole(space, many, bits), cloud.view(space.depth))
                for end in range(len(bits)):
                    self.wrong(read_code(space, many, bits[:end])[2], check_whole, space, many, bits[:end])
                for tail in ((0,), (1,), (0, 1, 1)):
                    self.wrong(len(bits), check_whole, space, many, bits + tail)

    def test_no_other_bits(self):
        space = Space(1, 3)
        for many in (1, 2, 4, 7):
            codes = {beginning(cloud_of(space, row), 3): row for row in plain.rows(3, many)}
            for length in range(9):
                for bits in product((0, 1), repeat=length):
                    if bits in codes:
                        self.assertEqual(check_whole(space, many, bits), plain.view(3, codes[bits], 3))
                    else:
                        self.wrong(read_code(space, many, bits)[2], check_whole, space, many, bits)

    def test_bits_that_tell_all_levels_but_are_no_code(self):
        space = Space(1, 3)
        found = 0
        for length in (6, 7, 8):
            for bits in product((0, 1), repeat=length):
                fineness, view, used = read_code(space, 2, bits)
                if fineness == 3 and used == length:
                    code = beginning(cloud_of(space, [number for number, _ in view]), 3)
                    if code != bits:
                        self.wrong(length, check_whole, space, 2, bits)
                        found += 1
        self.assertEqual(found, 16 + 12 + 20)

    def test_great_spaces(self):
        space = Space(3, 10)
        cloud = cloud_of(space, plain.unlike(600, 9, 2 ** 30))
        bits = beginning(cloud, 30)
        self.assertEqual(check_whole(space, 600, bits), cloud.view(30))
        self.wrong(len(bits), check_whole, space, 600, bits + (1,))
        self.wrong(len(beginning(cloud, 29)), check_whole, space, 600, bits[:-1])


if __name__ == "__main__":
    unittest.main()
