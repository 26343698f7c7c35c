"""Point [48]."""

import unittest
from itertools import permutations, product

from finecloud.motions import behind, is_proper, moved, still, turned_by, turns_of, undone
from tests import plain

MANY = {1: 2, 2: 8, 3: 48}


def drawn_points(many, seed, dimensions):
    """Drawn points with coordinates of both signs."""
    numbers = iter(plain.unlike(many * dimensions, seed, 10 ** 6))
    return [tuple(next(numbers) % 41 - 20 for _ in range(dimensions)) for _ in range(many)]


def determinant(axes, signs):
    """The determinant of the matrix of a turn, by its rows."""
    rows = [[sign if axis == place else 0 for place in range(len(axes))] for axis, sign in zip(axes, signs)]
    return minor(rows)


def minor(rows):
    if not rows:
        return 1
    return sum((-1) ** place * rows[0][place] * minor([row[:place] + row[place + 1:] for row in rows[1:]])
               for place in range(len(rows)))


def motions_of(dimensions, seed):
    """All turns, each with a drawn shift."""
    turns = turns_of(dimensions, True)
    return list(zip(turns, drawn_points(len(turns), seed, dimensions)))


class Turns(unittest.TestCase):
    def test_turned(self):
        self.assertEqual(turned_by((4, 7), ((1, 0), (1, -1))), (7, -4))
        self.assertEqual(turned_by((5,), ((0,), (-1,))), (-5,))
        self.assertEqual(turned_by((1, 2, 3), ((2, 0, 1), (-1, 1, -1))), (-3, 1, -2))
        self.assertEqual(turned_by([1, 2, 3], ((0, 1, 2), (1, 1, 1))), (1, 2, 3))

    def test_moved(self):
        self.assertEqual(moved((4, 7), (((1, 0), (1, -1)), (10, 20))), (17, 16))
        self.assertEqual(moved((5,), (((0,), (-1,)), (9,))), (4,))
        self.assertEqual(moved((1, 2, 3), (((2, 0, 1), (-1, 1, -1)), (0, -1, 5))), (-3, 0, 3))

    def test_all_turns_are_listed_in_order(self):
        for dimensions, many in MANY.items():
            every = turns_of(dimensions, True)
            axes = list(permutations(range(dimensions)))
            self.assertEqual(every, sorted(product(axes, product((-1, 1), repeat=dimensions))))
            self.assertEqual((type(every), len(every), every), (list, many, sorted(set(every))))

    def test_half_of_them_do_not_mirror(self):
        for dimensions, many in MANY.items():
            proper = turns_of(dimensions, False)
            self.assertEqual((type(proper), len(proper)), (list, many // 2))
            self.assertEqual(proper, [turn for turn in turns_of(dimensions, True) if determinant(*turn) == 1])
        self.assertEqual(turns_of(1, False), [((0,), (1,))])
        self.assertEqual(turns_of(1, True), [((0,), (-1,)), ((0,), (1,))])
        self.assertEqual(turns_of(2, False),
                         [((0, 1), (-1, -1)), ((0, 1), (1, 1)), ((1, 0), (-1, 1)), ((1, 0), (1, -1))])

    def test_proper(self):
        for dimensions in MANY:
            for axes, signs in turns_of(dimensions, True):
                self.assertIs(is_proper(axes, signs), determinant(axes, signs) == 1)
        self.assertTrue(is_proper((1, 2, 0), (1, 1, 1)))
        self.assertFalse(is_proper((2, 1, 0), (1, 1, 1)))
        self.assertFalse(is_proper((0, 1, 2), (-1, -1, -1)))
        self.assertTrue(is_proper((1, 0), (1, -1)))

    def test_turns_are_all_unlike(self):
        for dimensions, many in MANY.items():
            point = tuple(range(1, dimensions + 1))
            self.assertEqual(len({turned_by(point, turn) for turn in turns_of(dimensions, True)}), many)

    def test_a_list_that_was_told_is_not_kept(self):
        turns_of(2, True).clear()
        self.assertEqual(len(turns_of(2, True)), 8)


class Motions(unittest.TestCase):
    def test_still(self):
        self.assertEqual(still(1), (((0,), (1,)), (0,)))
        self.assertEqual(still(3), (((0, 1, 2), (1, 1, 1)), (0, 0, 0)))
        for dimensions in MANY:
            self.assertIn(still(dimensions)[0], turns_of(dimensions, False))
            for point in drawn_points(20, 1, dimensions):
                self.assertEqual(moved(point, still(dimensions)), point)

    def test_standing_still_before_and_behind(self):
        for dimensions in MANY:
            for motion in motions_of(dimensions, 2):
                self.assertEqual(behind(motion, still(dimensions)), motion)
                self.assertEqual(behind(still(dimensions), motion), motion)
            self.assertEqual(undone(still(dimensions)), still(dimensions))

    def test_the_first_then_the_second(self):
        self.assertEqual(behind((((0,), (-1,)), (3,)), (((0,), (-1,)), (10,))), (((0,), (1,)), (7,)))
        for dimensions in MANY:
            points = drawn_points(4, 3, dimensions)
            turns = turns_of(dimensions, True)
            for first, second in product(motions_of(dimensions, 4), motions_of(dimensions, 5)):
                both = behind(first, second)
                self.assertIn(both[0], turns)
                self.assertEqual([moved(point, both) for point in points],
                                 [moved(moved(point, first), second) for point in points])

    def test_taken_back(self):
        self.assertEqual(undone((((1, 0), (1, -1)), (10, 20))), (((1, 0), (-1, 1)), (20, -10)))
        for dimensions in MANY:
            points = drawn_points(20, 6, dimensions)
            turns = turns_of(dimensions, True)
            for motion in motions_of(dimensions, 7):
                back = undone(motion)
                self.assertIn(back[0], turns)
                self.assertEqual([moved(moved(point, motion), back) for point in points], points)
                self.assertEqual([moved(moved(point, back), motion) for point in points], points)
                self.assertEqual(behind(motion, back), still(dimensions))
                self.assertEqual(behind(back, motion), still(dimensions))
                self.assertEqual(undone(back), motion)

    def test_what_mirrors_twice_does_not_mirror(self):
        for dimensions in MANY:
            for first, second in product(turns_of(dimensions, True), repeat=2):
                shift = (0,) * dimensions
                turn = behind((first, shift), (second, shift))[0]
                self.assertEqual(is_proper(*turn), is_proper(*first) == is_proper(*second))


if __name__ == "__main__":
    unittest.main()
