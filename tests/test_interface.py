"""The section "The interface": every name stands in its file, with its arguments, methods in their class itself."""

import inspect
import unittest
from importlib import import_module

from finecloud.clouds import Cloud
from finecloud.edits import Edit
from finecloud.pieces import Knowledge
from finecloud.space import Box, Space
from finecloud.stores import Store
from finecloud.talks import Talk

FUNCTIONS = {
    "numbers": ("power(times)", "choices(many, some)", "bits_for(many)", "bits_of(number, many)", "number_of(bits)"),
    "space": ("prefixes_of(box)", "is_inside(prefix, other)"),
    "clouds": ("cloud_of(space, numbers)",),
    "ranks": ("all_clouds(space, many)", "completions(space, fineness, view)", "rank(cloud)",
              "cloud_at(space, many, number)", "whole_code(cloud)", "whole_of(space, many, bits)"),
    "progress": ("code_of(cloud)", "beginning(cloud, fineness)", "read_code(space, many, bits)",
                 "check_whole(space, many, bits)"),
    "beating": ("is_code(lengths)", "told_shorter(space, many, fineness, lengths, fewer)",
                "views_of(space, many, fineness)"),
    "pieces": ("piece_of(cloud, prefix, deeper)",),
    "edits": ("edit_between(one, other)", "edited(cloud, edit)", "turned(edit)", "merged(cloud, one, other)",
              "edits_many(cloud, gone, come)", "edit_code(cloud, edit)", "edit_of(cloud, gone, come, bits)"),
    "balls": ("square_between(one, other)", "least_square(space, centre, prefix)",
              "greatest_square(space, centre, prefix)", "halves_of(prefix)"),
    "asking": ("count_in(cloud, box)", "points_in(cloud, box)", "nearest(cloud, centre, many)",
               "nearest_plain(cloud, centre, many)"),
    "certain": ("nearest_bounds(knowledge, centre, many)", "is_possible(knowledge, centre, point)",
                "is_sure(knowledge, centre, point)"),
    "telling": ("fewest_facts(cloud, knowledge, box, fineness)", "is_enough(knowledge, box, fineness)"),
    "versions": ("rows_between(one, other)", "rows_edited(points, edit)"),
    "stores": ("line_of(number, row)", "versions_behind(store, cut)"),
    "motions": ("turned_by(point, turn)", "moved(point, motion)", "turns_of(many, are_mirrored)",
                "is_proper(axes, signs)", "still(many)", "behind(first, second)", "undone(motion)"),
    "shapes": ("settled(points)", "form_of(points, are_mirrored)", "are_alike(one, other, are_mirrored)",
               "motions_to(one, other, are_mirrored)", "places_in(shape, points, are_mirrored)"),
    "texts": ("write_cloud(cloud)", "read_cloud(text)", "write_facts(knowledge)", "read_facts(text)"),
    "shell": ("run_script(text)",),
}

CLASSES = {
    ("space", "Space(dimensions, bits)"): ("is_point(self, thing)", "woven(self, point)", "point_of(self, number)",
                                           "is_prefix(self, thing)", "size(self, prefix)", "cell(self, prefix)",
                                           "__eq__(self, other)"),
    ("space", "Box(space, lows, highs)"): ("holds(self, point)", "room(self, prefix)"),
    ("clouds", "Cloud(space, points)"): ("points(self)", "many(self)", "has(self, point)", "count(self, prefix)",
                                         "added(self, point)", "removed(self, point)", "view(self, fineness)",
                                         "__eq__(self, other)"),
    ("pieces", "Knowledge(space, facts)"): ("joined(self, other)", "bounds(self, region)",
                                            "some_cloud(self, region, is_most)", "known(self, prefix)",
                                            "__eq__(self, other)"),
    ("edits", "Edit(gone, come)"): ("__eq__(self, other)",),
    ("balls", "Ball(space, centre, square)"): ("holds(self, point)", "room(self, prefix)"),
    ("balls", "Lone(space, point)"): ("holds(self, point)", "room(self, prefix)"),
    ("talks", "Talk(cloud, box, fineness)"): ("send(self)", "report(self)", "deliver(self, at, is_kept)",
                                              "lose(self, at)", "is_done(self)"),
    ("versions", "History()"): ("many(self)", "put(self, number, points)", "points(self, number)",
                                "above(self, number)", "common(self, one, other)", "joined(self, one, other)"),
    ("stores", "Store(text)"): ("put(self, number, points)", "sync(self)", "settled(self)", "fallen(self, cut)"),
    ("errors", "BadSpace(word)"): (),
    ("errors", "BadPoint(point)"): (),
    ("errors", "BadCode(many)"): (),
    ("errors", "BadPiece(prefix)"): (),
    ("storeerrors", "BadVersion(number)"): (),
    ("storeerrors", "BadCut(place)"): (),
    ("texterrors", "BadText(line, word)"): (),
}


def told(name, thing):
    return name + str(inspect.signature(thing))


class Interface(unittest.TestCase):
    def test_functions(self):
        for file, rows in FUNCTIONS.items():
            module = import_module("finecloud." + file)
            for row in rows:
                name = row.split("(")[0]
                thing = getattr(module, name)
                self.assertTrue(inspect.isfunction(thing))
                self.assertEqual((told(name, thing), thing.__module__), (row, "finecloud." + file))

    def test_classes(self):
        for (file, row), methods in CLASSES.items():
            name = row.split("(")[0]
            thing = getattr(import_module("finecloud." + file), name)
            self.assertEqual((told(name, thing), thing.__module__), (row, "finecloud." + file))
            for method in methods:
                own = vars(thing)[method.split("(")[0]]
                self.assertEqual(told(own.__name__, own), method)

    def test_attributes_are_set_when_an_object_is_created(self):
        space = Space(2, 3)
        self.assertLessEqual({"dimensions", "bits", "depth", "side"}, set(vars(space)))
        self.assertLessEqual({"space", "lows", "highs"}, set(vars(Box(space, (0, 0), (1, 1)))))
        self.assertLessEqual({"space", "row"}, set(vars(Cloud(space, ()))))
        self.assertLessEqual({"space", "facts"}, set(vars(Knowledge(space, {}))))
        self.assertLessEqual({"gone", "come"}, set(vars(Edit((), ()))))
        talk = Talk(Cloud(space, ()), Box(space, (0, 0), (1, 1)), 3)
        self.assertLessEqual({"cloud", "box", "fineness", "seen", "reported", "letters"}, set(vars(talk)))
        self.assertLessEqual({"history", "text", "loose"}, set(vars(Store(""))))


if __name__ == "__main__":
    unittest.main()
