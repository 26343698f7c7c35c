"""Points [1] and [60]: what is told of a cloud, in whatever way, is read back to it; a beginning means a beginning."""

import unittest

from finecloud.balls import Lone
from finecloud.clouds import Cloud, cloud_of
from finecloud.edits import edit_between, edit_code, edit_of, edited
from finecloud.motions import moved, turns_of
from finecloud.pieces import Knowledge, piece_of
from finecloud.progress import beginning, check_whole, read_code
from finecloud.ranks import whole_code, whole_of
from finecloud.shapes import are_alike, motions_to
from finecloud.shell import run_script
from finecloud.space import Box, Space
from finecloud.stores import Store, versions_behind
from finecloud.texts import read_cloud, read_facts, write_cloud, write_facts
from tests import plain


def drawn_clouds():
    for dimensions, bits in ((1, 3), (2, 1), (2, 3), (3, 2), (3, 10)):
        space = Space(dimensions, bits)
        for many in (0, 1, 2, 4, 40):
            if many <= 2 ** space.depth:
                yield cloud_of(space, plain.unlike(many, 100 + many, 2 ** space.depth))


def row_of(cloud):
    """The points of a cloud as versions have them."""
    return tuple(sorted(cloud.points()))


class Whole(unittest.TestCase):
    def test_codes(self):
        for cloud in drawn_clouds():
            space, many = cloud.space, cloud.many()
            bits = beginning(cloud, space.depth)
            view = check_whole(space, many, bits)
            self.assertEqual(cloud_of(space, [number for number, _ in view]), cloud)
            self.assertEqual(whole_of(space, many, whole_code(cloud)), cloud)
            for fineness in range(0, space.depth + 1, 3):
                start = beginning(cloud, fineness)
                self.assertEqual(bits[:len(start)], start)
                read, view, _ = read_code(space, many, start)
                self.assertGreaterEqual(read, fineness)
                self.assertEqual(view, cloud.view(read))

    def test_pieces(self):
        for cloud in drawn_clouds():
            pieces = [{(0, 0): cloud.count((0, 0))}]
            pieces += [piece_of(cloud, (cloud.space.depth, number), 2) for number in cloud.row]
            for order in (pieces, pieces[::-1] + pieces[:1]):
                seen = Knowledge(cloud.space, {})
                for piece in order:
                    seen = read_facts(write_facts(seen.joined(Knowledge(cloud.space, piece))))
                    for point in cloud.points()[:3]:
                        self.assertEqual(seen.bounds(Lone(cloud.space, point))[1], 1)
                highest = (cloud.space.side - 1,) * cloud.space.dimensions
                whole = Box(cloud.space, (0,) * cloud.space.dimensions, highest)
                self.assertEqual(seen.bounds(whole), (cloud.many(), cloud.many()))
                for point in cloud.points():
                    self.assertEqual(seen.bounds(Lone(cloud.space, point)), (1, 1))

    def test_texts_scripts_and_stores(self):
        clouds = list(drawn_clouds())
        store = Store("")
        for cloud in clouds:
            text = write_cloud(cloud)
            self.assertEqual(read_cloud(text), cloud)
            far = " " + " ".join([str(cloud.space.side - 1)] * cloud.space.dimensions)
            script = text.replace("point", "put") + "\nlist" + " 0" * cloud.space.dimensions + far
            self.assertEqual(run_script(script), text.split("\n")[1:])
            store.put((store.history.many() - 1) // 2, row_of(cloud))
        for cut in range(0, len(store.loose) + 1, 97):
            left = Store(store.fallen(cut))
            many = versions_behind(store, cut)
            self.assertEqual([Cloud(cloud.space, left.history.points(number))
                              for number, cloud in enumerate(clouds[:many - 1], 1)], clouds[:many - 1])

    def test_edits(self):
        clouds = [cloud_of(Space(2, 3), plain.unlike(many, 110 + many, 64)) for many in (0, 1, 9, 30, 64)]
        for one in clouds:
            for other in clouds:
                edit = edit_between(one, other)
                self.assertEqual(edited(one, edit), other)
                bits = edit_code(one, edit)
                self.assertEqual(edited(one, edit_of(one, len(edit.gone), len(edit.come), bits)), other)

    def test_shapes(self):
        for cloud in drawn_clouds():
            row, dimensions = row_of(cloud), cloud.space.dimensions
            for turn in turns_of(dimensions, False)[::5] if row else []:
                motion = turn, (7,) * dimensions
                other = tuple(moved(point, motion) for point in row)
                self.assertTrue(are_alike(row, other, False))
                self.assertIn(motion, motions_to(row, other, False))


if __name__ == "__main__":
    unittest.main()
