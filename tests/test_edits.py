"""Points [16], [17]."""

import unittest
from itertools import combinations, permutations, product
from math import comb

from finecloud.clouds import Cloud, cloud_of
from finecloud.edits import Edit, edit_between, edit_code, edit_of, edited, edits_many, merged, turned
from finecloud.errors import BadCode, BadPoint
from finecloud.numbers import bits_for, bits_of
from finecloud.space import Space
from tests import plain

SPACE = Space(1, 3)
SHEEP = Cloud(Space(2, 2), [(0, 0), (1, 0), (3, 3)])


def clouds_of(space):
    every = plain.AllClouds(space.depth)
    return [cloud_of(space, every.row(number)) for number in every.numbers()]


def lots(row):
    """All lots of the numbers of a row."""
    return [lot for many in range(len(row) + 1) for lot in combinations(row, many)]


def free(cloud):
    return [number for number in range(2 ** cloud.space.depth) if number not in cloud.row]


class Edits(unittest.TestCase):
    def wrong(self, point, cloud, edit):
        with self.assertRaises(BadPoint) as caught:
            edited(cloud, edit)
        self.assertEqual(caught.exception.point, point)

    def test_attributes(self):
        edit = Edit((1, 4), (2,))
        self.assertEqual((edit.gone, edit.come), ((1, 4), (2,)))
        rows = [1, 4], [2]
        edit = Edit(*rows)
        rows[0].append(9)
        self.assertEqual((edit.gone, edit.come), ((1, 4), (2,)))
        self.assertEqual((Edit((), ()).gone, Edit((), ()).come), ((), ()))

    def test_alike(self):
        self.assertTrue(Edit((1, 4), (2,)) == Edit([1, 4], [2]))
        self.assertFalse(Edit((1, 4), (2,)) != Edit((1, 4), (2,)))
        for other in (Edit((1,), (2,)), Edit((1, 4), ()), Edit((2,), (1, 4)), ((1, 4), (2,)), None):
            self.assertFalse(Edit((1, 4), (2,)) == other)
            self.assertTrue(Edit((1, 4), (2,)) != other)

    def test_by_hand(self):
        other = Cloud(SHEEP.space, [(1, 0), (2, 2), (3, 3), (0, 1)])
        edit = edit_between(SHEEP, other)
        self.assertEqual((edit.gone, edit.come), ((0,), (1, 12)))
        self.assertEqual(edited(SHEEP, edit), other)
        self.assertEqual(edit_between(SHEEP, SHEEP), Edit((), ()))
        self.assertEqual(edited(SHEEP, Edit((), ())), SHEEP)
        self.assertEqual(SHEEP.row, (0, 2, 15))

    def test_between_all_small_clouds(self):
        every = clouds_of(SPACE)
        for one, other in list(product(every, every))[::3]:
            edit = edit_between(one, other)
            self.assertEqual(edit.gone, tuple(number for number in one.row if number not in other.row))
            self.assertEqual(edit.come, tuple(number for number in other.row if number not in one.row))
            self.assertEqual(edited(one, edit), other)
            self.assertEqual(edited(other, turned(edit)), one)
            self.assertEqual(turned(edit), edit_between(other, one))
            self.assertEqual(turned(turned(edit)), edit)

    def test_wrong_edits(self):
        self.wrong((0, 1), SHEEP, Edit((1,), ()))
        self.wrong((2, 2), SHEEP, Edit((0, 12, 13), ()))
        self.wrong((3, 3), SHEEP, Edit((), (1, 15)))
        self.wrong((0, 0), SHEEP, Edit((), (0, 2, 15)))
        self.wrong((0, 0), SHEEP, Edit((0,), (0, 1)))
        self.wrong((1, 0), SHEEP, Edit((0, 2), (1, 2, 15)))

    def test_what_goes_comes_first(self):
        self.wrong((3, 2), SHEEP, Edit((0, 14), (0, 2)))
        self.wrong((0, 1), SHEEP, Edit((1, 3), (1,)))
        self.wrong((0, 1), SHEEP, Edit((1,), (1,)))

    def test_all_small_edits(self):
        space = Space(1, 2)
        numbers = lots(range(4))
        for cloud in clouds_of(space):
            for gone, come in product(numbers, numbers):
                missing = [number for number in gone if number not in cloud.row]
                taken = [number for number in come if number in cloud.row]
                if missing + taken:
                    self.wrong(((missing + taken)[0],), cloud, Edit(gone, come))
                else:
                    behind = edited(cloud, Edit(gone, come))
                    self.assertEqual(set(behind.row), set(cloud.row) - set(gone) | set(come))
                    self.assertEqual(list(behind.row), sorted(behind.row))
                    self.assertEqual(edit_between(cloud, behind), Edit(gone, come))

    def test_merged(self):
        for cloud in clouds_of(Space(2, 1)):
            there = [Edit(gone, come) for gone, come in product(lots(cloud.row), lots(free(cloud)))]
            for one, other in product(there, there):
                both = merged(cloud, one, other)
                self.assertEqual(both.gone, tuple(sorted(set(one.gone + other.gone))))
                self.assertEqual(both.come, tuple(sorted(set(one.come + other.come))))
                self.assertEqual(both, merged(cloud, other, one))
                self.assertEqual(merged(cloud, both, one), both)
                row = set(cloud.row) - set(one.gone) - set(other.gone) | set(one.come) | set(other.come)
                self.assertEqual(edited(cloud, both).row, tuple(sorted(row)))

    def test_merged_in_any_order(self):
        edits = [Edit((0,), (1, 3)), Edit((0, 15), (3, 4)), Edit((), (9,))]
        for one, two, last in permutations(edits):
            self.assertEqual(merged(SHEEP, merged(SHEEP, one, two), last), Edit((0, 15), (1, 3, 4, 9)))
            self.assertEqual(merged(SHEEP, one, merged(SHEEP, two, last)), Edit((0, 15), (1, 3, 4, 9)))
        nothing = Edit((), ())
        self.assertEqual(merged(SHEEP, nothing, nothing), nothing)
        self.assertEqual(merged(SHEEP, nothing, edits[0]), edits[0])

    def test_great_spaces(self):
        space = Space(3, 10)
        one = cloud_of(space, plain.unlike(3000, 5, 2 ** 30))
        other = cloud_of(space, one.row[:1000] + tuple(plain.unlike(500, 6, 2 ** 30)))
        edit = edit_between(one, other)
        self.assertEqual((len(edit.gone), len(edit.come)), (2000, 500))
        self.assertEqual(edited(one, edit), other)
        self.assertEqual(edited(other, turned(edit)), one)


class EditCodes(unittest.TestCase):
    def check_codes(self, cloud, gone, come):
        """Whether all edits of a kind have unlike codes of the least length, that come back, and no others do."""
        kind = [Edit(less, more) for less, more in product(combinations(cloud.row, gone), combinations(free(cloud), come))]
        self.assertEqual(edits_many(cloud, gone, come), len(kind))
        length = bits_for(len(kind))
        codes = [edit_code(cloud, edit) for edit in kind]
        for edit, code in zip(kind, codes):
            self.assertEqual((type(code), len(code)), (tuple, length))
            self.assertLessEqual(set(code), {0, 1})
            self.assertEqual(edit_of(cloud, gone, come, code), edit)
            self.assertEqual(edit_code(cloud, Edit(edit.gone, edit.come)), code)
        self.assertEqual(len(set(codes)), len(kind))
        for bits in {bits_of(number, length) for number in range(2 ** length)} - set(codes):
            self.check_wrong(cloud, gone, come, bits)
        for bits in (codes[0] + (0,), (0,) + codes[0], codes[0] + (1,) * 5, codes[-1][:-1]):
            if len(bits) != length:
                self.check_wrong(cloud, gone, come, bits)

    def check_wrong(self, cloud, gone, come, bits):
        with self.assertRaises(BadCode) as caught:
            edit_of(cloud, gone, come, bits)
        self.assertEqual(caught.exception.many, len(bits))

    def test_all_clouds_of_four_points(self):
        for space in (Space(1, 2), Space(2, 1)):
            for cloud in clouds_of(space):
                for gone, come in product(range(cloud.many() + 1), range(5 - cloud.many())):
                    self.check_codes(cloud, gone, come)

    def test_clouds_of_eight_points(self):
        for space in (Space(1, 3), Space(3, 1)):
            for cloud in clouds_of(space)[::5]:
                for gone, come in product(range(cloud.many() + 1), range(9 - cloud.many())):
                    self.check_codes(cloud, gone, come)

    def test_nothing_goes_and_nothing_comes(self):
        for cloud in clouds_of(Space(2, 1)):
            self.assertEqual(edits_many(cloud, 0, 0), 1)
            self.assertEqual(edit_code(cloud, Edit((), ())), ())
            self.assertEqual(edit_of(cloud, 0, 0, ()), Edit((), ()))
            self.check_wrong(cloud, 0, 0, (0,))

    def test_more_than_there_are(self):
        for gone, come in ((4, 0), (0, 14), (4, 14), (-1, 0), (0, -1), (100, 1)):
            self.assertEqual(edits_many(SHEEP, gone, come), 0)
            for bits in ((), (0,), (1,), (0, 0, 0, 0)):
                self.check_wrong(SHEEP, gone, come, bits)

    def test_how_many(self):
        cloud = cloud_of(Space(3, 10), plain.unlike(100, 7, 2 ** 30))
        self.assertEqual(edits_many(cloud, 7, 20), comb(100, 7) * comb(2 ** 30 - 100, 20))
        self.assertEqual(edits_many(SHEEP, 3, 13), 1)

    def test_great_spaces(self):
        space = Space(3, 10)
        cloud = cloud_of(space, plain.unlike(800, 8, 2 ** 30))
        for gone, come in ((0, 1), (1, 0), (5, 7), (400, 300), (800, 0), (0, 600)):
            coming = [number for number in plain.unlike(come + 5, 9, 2 ** 30) if number not in cloud.row][:come]
            edit = Edit(sorted(plain.some(gone, 10, cloud.row)), sorted(coming))
            bits = edit_code(cloud, edit)
            self.assertEqual(len(bits), bits_for(comb(800, gone) * comb(2 ** 30 - 800, come)))
            self.assertEqual(edit_of(cloud, gone, come, bits), edit)
            self.check_wrong(cloud, gone, come, bits + (0,))


if __name__ == "__main__":
    unittest.main()
