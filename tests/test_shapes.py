"""Point [49]."""

import unittest
from itertools import combinations, permutations, product

from finecloud.motions import behind, is_proper, moved, still, undone
from finecloud.shapes import are_alike, form_of, motions_to, places_in, settled
from tests import plain

ELL, JAY = ((0, 0), (1, 0), (2, 0), (2, 1)), ((5, 5), (5, 6), (5, 7), (4, 7))
SQUARE = ((0, 0), (0, 1), (1, 0), (1, 1))
CUBE = tuple(product((0, 1), repeat=3))
# Three arms along the axes, of unlike lengths: in three dimensions it is no turn of its mirrored one.
ARMS = ((0, 0, 0), (1, 0, 0), (0, 1, 0), (0, 2, 0), (0, 0, 1), (0, 0, 2), (0, 0, 3))


def all_turns(dimensions):
    return list(product(permutations(range(dimensions)), product((-1, 1), repeat=dimensions)))


def is_plain_proper(axes, signs):
    """Whether the determinant of a turn is 1: a swap of two axes and a sign each make its sign the other one."""
    swaps = sum(one > other for one, other in combinations(axes, 2))
    return (-1) ** (swaps + signs.count(-1)) == 1


def plain_moved(point, motion):
    (axes, signs), shift = motion
    return tuple(signs[place] * point[axes[place]] + shift[place] for place in range(len(shift)))


def motions_near(dimensions, least, most, are_mirrored):
    """All motions of the turns let whose shift is from least to most along each axis, ascending."""
    turns = [turn for turn in all_turns(dimensions) if are_mirrored or is_plain_proper(*turn)]
    return sorted(product(turns, product(range(least, most + 1), repeat=dimensions)))


def drawn_rows(many, seed, side, dimensions, most):
    """Drawn rows of 1 to most points below a side, each in no order."""
    every = sorted(product(range(side), repeat=dimensions))
    return [tuple(plain.some(1 + number % most, number, every)) for number in plain.unlike(many, seed, 10 ** 9)]


class Forms(unittest.TestCase):
    def test_examples(self):
        self.assertIs(are_alike(ELL, JAY, True), True)
        self.assertIs(are_alike(ELL, JAY, False), True)
        self.assertEqual(form_of(((4, 2), (4, 3)), False), ((0, 0), (0, 1)))
        self.assertEqual(len(places_in(((0, 0), (1, 0)), ((0, 0), (1, 0), (1, 1)), False)), 4)

    def test_settled(self):
        self.assertEqual(settled(((5, 7), (4, 9), (6, 8))), (((0, 2), (1, 0), (2, 1)), (-4, -7)))
        self.assertEqual(settled(((3,), (-2,))), (((0,), (5,)), (2,)))
        self.assertEqual(settled(((4, -5, 6),)), (((0, 0, 0),), (-4, 5, -6)))
        self.assertEqual(settled([(0, 1), (0, 0)]), (((0, 0), (0, 1)), (0, 0)))

    def test_forms(self):
        self.assertEqual(form_of(((7,), (4,), (5,)), False), ((0,), (1,), (3,)))
        self.assertEqual(form_of(((7,), (4,), (6,)), False), ((0,), (2,), (3,)))
        self.assertEqual(form_of(((7,), (4,), (6,)), True), ((0,), (1,), (3,)))
        self.assertEqual(form_of(((2, 4), (3, 4)), False), ((0, 0), (0, 1)))
        self.assertEqual(form_of(JAY, False), ((0, 0), (0, 1), (0, 2), (1, 0)))
        other = ((5, 5), (5, 6), (5, 7), (6, 7))
        self.assertEqual(form_of(other, False), ((0, 0), (0, 1), (0, 2), (1, 2)))
        self.assertEqual(form_of(other, True), ((0, 0), (0, 1), (0, 2), (1, 0)))

    def test_no_points(self):
        for are_mirrored in (True, False):
            self.assertEqual(form_of((), are_mirrored), ())
            self.assertIs(are_alike((), (), are_mirrored), True)
            for row in (((0,),), ((0, 0),), ((0, 0, 0),), ELL):
                self.assertIs(are_alike((), row, are_mirrored), False)
                self.assertIs(are_alike(row, (), are_mirrored), False)
                self.assertEqual(places_in(row, (), are_mirrored), [])

    def test_one_point(self):
        for dimensions, many in ((1, 2), (2, 8), (3, 48)):
            one, other = tuple(range(3, 3 + dimensions)), (-7,) * dimensions
            for are_mirrored in (True, False):
                self.assertEqual(form_of((one,), are_mirrored), ((0,) * dimensions,))
                self.assertTrue(are_alike((one,), (other,), are_mirrored))
                motions = motions_to((one,), (other,), are_mirrored)
                self.assertEqual(len(motions), many if are_mirrored else many // 2)
                self.assertEqual([moved(one, motion) for motion in motions], [other] * len(motions))
                self.assertEqual(places_in((one,), (other,), are_mirrored), motions)

    def test_points_of_other_dimensions(self):
        self.assertFalse(are_alike(((0,),), ((0, 0),), True))
        self.assertEqual(motions_to(((0, 0),), ((0,),), True), [])
        self.assertEqual(places_in(((0, 0),), ((0,),), True), [])
        self.assertEqual(places_in(((0,),), ((0, 0),), True), [])

    def test_mirrored_shapes(self):
        ess, zed = ((0, 0), (0, 1), (1, 1), (1, 2)), ((0, 1), (0, 2), (1, 0), (1, 1))
        arms = tuple((-first, second, third) for first, second, third in ARMS)
        for one, other in ((ess, zed), (((0,), (1,), (3,)), ((0,), (2,), (3,))), (ARMS, arms)):
            self.assertTrue(are_alike(one, other, True))
            self.assertFalse(are_alike(one, other, False))
            self.assertEqual(form_of(one, True), form_of(other, True))
            self.assertEqual(motions_to(one, other, False), [])
            self.assertEqual(len(motions_to(one, one, False)), len(motions_to(one, other, True)))

    def test_symmetries(self):
        line = ((0, 0), (0, 1), (0, 2))
        for row, many in ((SQUARE, 8), (CUBE, 48), (line, 4), (ELL, 1), (ARMS, 1), (((0,), (5,)), 2)):
            self.assertEqual(len(motions_to(row, row, True)), many)
            self.assertEqual(len(motions_to(row, row, False)), max(1, many // 2))
            self.assertIn(still(len(row[0])), motions_to(row, row, False))

    def test_points_in_any_order(self):
        shifted = tuple((first + 4, second - 9) for first, second in ELL)
        told = settled(ELL), form_of(ELL, False), motions_to(ELL, shifted, True), places_in(ELL, shifted, True)
        for one in permutations(ELL):
            for other in (shifted, shifted[::-1]):
                self.assertEqual((settled(one), form_of(one, False), motions_to(one, other, True),
                                  places_in(one, other, True)), told)
                self.assertTrue(are_alike(one, other, False))

    def test_lists_are_taken_and_left_alone(self):
        one, other = list(ELL[::-1]), list(JAY)
        self.assertEqual(motions_to(one, other, True), motions_to(ELL, JAY, True))
        self.assertEqual(places_in(one, other, True), places_in(ELL, JAY, True))
        self.assertEqual((form_of(one, True), settled(one)), (form_of(ELL, True), settled(ELL)))
        self.assertEqual((one, other), (list(ELL[::-1]), list(JAY)))


class AllMotions(unittest.TestCase):
    """Against going through all turns and all shifts."""

    def check_pair(self, one, other, least, most):
        for are_mirrored in (True, False):
            every = motions_near(len(one[0]), least, most, are_mirrored)
            moves = [(motion, {plain_moved(point, motion) for point in one}) for motion in every]
            found = [motion for motion, row in moves if row == set(other)]
            self.assertEqual(motions_to(one, other, are_mirrored), found)
            self.assertIs(are_alike(one, other, are_mirrored), found != [])
            self.assertIs(form_of(one, are_mirrored) == form_of(other, are_mirrored), found != [])
            found = [motion for motion, row in moves if row <= set(other)]
            self.assertEqual(places_in(one, other, are_mirrored), found)

    def test_all_rows_on_a_line(self):
        rows = [row for many in range(1, 5) for row in combinations([(part,) for part in range(4)], many)]
        for one, other in product(rows, rows):
            self.check_pair(one, other, -3, 6)

    def test_all_rows_of_a_square(self):
        rows = [row for many in range(1, 5) for row in combinations(SQUARE, many)]
        for one, other in product(rows, rows):
            self.check_pair(one, other, -1, 2)

    def test_drawn_rows(self):
        for side, dimensions, most in ((9, 1, 5), (3, 2, 5), (2, 3, 6)):
            rows = drawn_rows(12, 40 + side, side, dimensions, most)
            for one, other in zip(rows, rows[1:] + rows[:1]):
                self.check_pair(one, other, 1 - side, 2 * (side - 1))

    def test_drawn_rows_and_the_same_moved(self):
        for side, dimensions, most in ((9, 1, 5), (3, 2, 6), (2, 3, 5)):
            for number, row in enumerate(drawn_rows(8, 50 + side, side, dimensions, most)):
                turn = all_turns(dimensions)[number * 7 % len(all_turns(dimensions))]
                other = tuple(plain_moved(point, (turn, (1,) * dimensions)) for point in row)
                self.check_pair(row, other, -2 * side, 2 * side)

    def test_forms_are_the_least_of_all_turned_and_settled(self):
        for side, dimensions, most in ((20, 1, 6), (5, 2, 8), (4, 3, 8)):
            for row in drawn_rows(15, 60 + side, side, dimensions, most):
                for are_mirrored in (True, False):
                    rows = []
                    for turn in all_turns(dimensions):
                        if are_mirrored or is_plain_proper(*turn):
                            turned = [plain_moved(point, (turn, (0,) * dimensions)) for point in row]
                            lows = [min(point[axis] for point in turned) for axis in range(dimensions)]
                            rows.append(tuple(sorted(tuple(part - low for part, low in zip(point, lows))
                                                     for point in turned)))
                    self.assertEqual(form_of(row, are_mirrored), min(rows))

    def test_motions_there_and_on_and_back(self):
        for side, dimensions, most in ((30, 1, 6), (6, 2, 8), (5, 3, 9)):
            for row in drawn_rows(6, 70 + side, side, dimensions, most):
                for motion in motions_near(dimensions, 3, 3, True):
                    other = tuple(moved(point, motion) for point in row)
                    there = motions_to(row, other, True)
                    self.assertIn(motion, there)
                    self.assertEqual(motions_to(other, row, True), sorted(undone(each) for each in there))
                    self.assertEqual(sorted(behind(each, motion) for each in motions_to(row, row, True)), there)
                    self.assertIs(are_alike(row, other, False), any(is_proper(*each[0]) for each in there))

    def test_many_points(self):
        points = sorted(product(range(40), repeat=2))
        self.assertEqual(len(places_in(SQUARE, points, True)), 39 * 39 * 8)
        self.assertEqual(len(places_in(ELL, points[:-1], False)), 4 * 39 * 38 - 3)
        shape = [(1023 * first, second, second * first % 17) for first, second in points]
        self.assertIn(still(3), motions_to(shape, shape, True))


if __name__ == "__main__":
    unittest.main()
