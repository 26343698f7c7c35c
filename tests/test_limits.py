"""The interface: callers go somewhat beyond a limit of a point, and no error is raised unless a point says so."""

import unittest
from itertools import product

from finecloud.asking import nearest, nearest_plain
from finecloud.balls import Ball, Lone, greatest_square, halves_of, least_square
from finecloud.beating import is_code, told_shorter, views_of
from finecloud.certain import nearest_bounds
from finecloud.clouds import cloud_of
from finecloud.edits import edit_of, edits_many
from finecloud.errors import BadCode, BadPoint
from finecloud.motions import behind, is_proper, moved, still, turned_by, turns_of, undone
from finecloud.numbers import bits_for, bits_of, choices, power
from finecloud.pieces import Knowledge, piece_of
from finecloud.progress import beginning, check_whole, read_code
from finecloud.ranks import all_clouds, cloud_at, completions, whole_of
from finecloud.shapes import are_alike, form_of, motions_to, places_in, settled
from finecloud.space import Box, Space, is_inside
from finecloud.stores import Store, line_of, versions_behind
from finecloud.telling import is_enough
from tests import plain

BEYOND = range(-3, 8)
ROWS = ((), (0,), (1,), (0, 1), (1, 1, 1, 1))
SPACES = (Space(1, 1), Space(1, 2), Space(2, 1), Space(3, 1))


def beyond_prefixes(space):
    return list(product(range(-2, space.depth + 4), range(-3, 20)))


def clouds_of(space):
    return [cloud_of(space, row) for row in ((), (0,), (0, 1), tuple(range(2 ** space.depth)))]


class Beyond(unittest.TestCase):
    def only(self, kind, action, *told):
        """Whether an action goes well or raises the error that the document tells."""
        try:
            action(*told)
        except kind:
            pass

    def test_numbers(self):
        for one, other in product(BEYOND, BEYOND):
            power(one)
            bits_for(one)
            choices(one, other)
            self.assertLessEqual(set(bits_of(one, other)), {0, 1})

    def test_prefixes(self):
        for space in SPACES:
            lowest, highest = space.cell((0, 0))
            regions = [Box(space, lowest, lowest), Box(space, lowest, highest), Lone(space, highest)]
            regions += [Ball(space, highest, square) for square in (-5, -1, 0, 2, 10 ** 20)]
            lots = [{}, {(0, 0): 1}, {(1, 0): 1, (1, 1): 0}, {(space.depth, 1): 1}]
            for prefix in beyond_prefixes(space):
                space.size(prefix)
                space.cell(prefix)
                halves_of(prefix)
                least_square(space, lowest, prefix)
                greatest_square(space, highest, prefix)
                for region in regions:
                    region.room(prefix)
                for facts in lots:
                    Knowledge(space, facts).known(prefix)
                for cloud, deeper in product(clouds_of(space), (-2, 0, 1, 9)):
                    cloud.count(prefix)
                    piece_of(cloud, prefix, deeper)
                for other in beyond_prefixes(space)[::3]:
                    is_inside(prefix, other)

    def test_no_points_are_of_a_prefix_that_is_longer_than_the_depth(self):
        for space in SPACES:
            lowest, highest = space.cell((0, 0))
            regions = [Box(space, lowest, highest), Lone(space, lowest), Ball(space, lowest, 10)]
            for length, number in product((space.depth + 1, space.depth + 3), range(5)):
                rooms = [region.room((length, number)) for region in regions]
                counts = [cloud.count((length, number)) for cloud in clouds_of(space)]
                self.assertEqual((space.size((length, number)), rooms, counts), (0, [0] * 3, [0] * 4))
                self.assertEqual(Knowledge(space, {}).known((length, number)), 0)

    def test_finenesses(self):
        for space, fineness in product(SPACES, BEYOND):
            box = Box(space, *space.cell((1, 1)))
            for cloud in clouds_of(space):
                cloud.view(fineness)
                beginning(cloud, fineness)
                is_enough(Knowledge(space, {(0, 0): cloud.many()}), box, fineness)
            for many in BEYOND:
                views_of(space, many, fineness)
                completions(space, fineness, ((0, many),))

    def test_beyond_the_depth_nothing_is_finer(self):
        for space, deeper in product(SPACES, (1, 2, 9)):
            for cloud in clouds_of(space):
                view = cloud.view(space.depth)
                self.assertEqual(cloud.view(space.depth + deeper), view)
                self.assertEqual(beginning(cloud, space.depth + deeper), beginning(cloud, space.depth))
                self.assertEqual(completions(space, space.depth + deeper, view), 1)
                views = views_of(space, cloud.many(), space.depth)
                self.assertEqual(views_of(space, cloud.many(), space.depth + deeper), views)

    def test_numbers_of_points(self):
        for space, many in product(SPACES, BEYOND):
            all_clouds(space, many)
            for bits in ROWS:
                for action in (read_code, check_whole, whole_of):
                    self.only(BadCode, action, space, many, bits)
                for cloud, other in product(clouds_of(space), BEYOND):
                    edits_many(cloud, many, other)
                    self.only(BadCode, edit_of, cloud, many, other, bits)
            for number in BEYOND:
                space.point_of(number)
                self.only(BadCode, cloud_at, space, many, number)
            for action, thing in ((nearest, clouds_of(space)[2]), (nearest_plain, clouds_of(space)[2]),
                                  (nearest_bounds, Knowledge(space, {}))):
                self.only(BadPoint, action, thing, space.point_of(0), many)

    def test_lengths_of_words(self):
        space = Space(1, 2)
        for one, other, fewer in product(BEYOND, BEYOND, BEYOND):
            lengths = {((0, 2),): one, ((0, 1), (1, 1)): other, ((1, 2),): 3}
            self.assertIs(is_code(lengths), 8 >= 2 ** (3 - one) + 2 ** (3 - other) + 1)
            clouds = {view: sum(plain.view(2, row, 1) == view for row in plain.rows(2, 2)) for view in lengths}
            told = sum(count for view, count in clouds.items() if 2 ** (lengths[view] + fewer) * count <= 6)
            self.assertEqual(told_shorter(space, 2, 1, lengths, fewer), told)

    def test_lines_and_points_of_versions(self):
        great = 10 ** 19
        for point in ((great,), (-great, 0), (1, 2, 3, 4)):
            for number, made_of in product((-1, 0, 1, great), repeat=2):
                line_of(number, (made_of, ((point,), (point,))))
            store = Store("")
            self.assertEqual(store.put(0, (point,)), 1)
            self.assertEqual(store.put(1, ()), 2)
            self.assertEqual(versions_behind(store, len(store.loose)), 3)
            self.assertEqual(store.history.points(1), (point,))

    def test_dimensions_of_turns(self):
        for many in range(-3, 6):
            point = tuple(range(5, 5 + many))
            self.assertEqual(moved(point, still(many)), point)
            for are_mirrored in (True, False):
                turns = turns_of(many, are_mirrored)
                self.assertEqual(turns, sorted(turns))
                for turn in turns[::7]:
                    is_proper(*turn)
                    motion = turn, turned_by(point, turn)
                    self.assertEqual(behind(motion, undone(motion)), still(many))

    def test_shapes_without_points(self):
        for are_mirrored in (True, False):
            for row in ((), ((0, 0),), ((1, 2, 3), (3, 4, 5))):
                motions_to((), row, are_mirrored)
                motions_to(row, (), are_mirrored)
                places_in((), row, are_mirrored)
        self.assertEqual(settled(()), ((), ()))

    def test_shapes_of_four_dimensions(self):
        one, other = ((0, 0, 0, 0), (0, 0, 0, 1)), ((5, 6, 7, 8), (5, 6, 8, 8))
        self.assertTrue(are_alike(one, other, False))
        self.assertEqual(form_of(one, True), form_of(other, True))
        self.assertEqual(len(motions_to(one, other, True)), 96)
        self.assertEqual(len(places_in(one, other, False)), 48)


if __name__ == "__main__":
    unittest.main()
