"""The errors: where they stand, and what they keep."""

import inspect
import unittest

from tests.drawn import NEST, PATH, SPLIT, paths
from tests.tools import ANYTHING
from threelanes import errors
from threelanes.bags import BagTree, bags_with, restricted, tree_of
from threelanes.check_colourings import judged_walks, judged_ways
from threelanes.colourings import map_colours, tree_colours
from threelanes.desks import Desk
from threelanes.doors import door_walk, full_faces, met_face
from threelanes.errors import LaneError
from threelanes.labels import are_tied, label_text, labels_of, told_label
from threelanes.layers import leg_colours
from threelanes.lines import is_line_walk, judged_line, line_colours
from threelanes.lots import best_lot, parting_of, rests_without, shares_of
from threelanes.makes import floor, ring
from threelanes.peels import middle_bag
from threelanes.pictures import picture_of, seats_in
from threelanes.pieces import cut, parted, within
from threelanes.seats import Seats, are_near, seated
from threelanes.webs import Web, renamed
from threelanes.words import chosen_word, count_words, first_repeat

FIELDS = {
    "BadNumber": ("part",),
    "BadWeb": ("part",),
    "BadFace": ("part",),
    "BadColours": ("part",),
    "BadTree": ("part",),
    "BadSeats": ("part",),
    "BadWord": ("part",),
    "BadLabel": ("part",),
    "BadLot": ("part",),
    "BadNames": ("part",),
    "BadPaper": ("part",),
    "Misfit": ("part",),
    "NoName": ("value",),
    "Twice": ("value",),
    "TooMany": ("what", "most"),
    "BadText": ("line", "item"),
    "BadLine": ("line", "error"),
}

CALLS = (
    (("BadNumber", "many"), ring, (2,)),
    (("BadNumber", "begins"), cut, (NEST, (1, 3, 2), (1, 2, 3), (0, 1))),
    (("BadNumber", "piece"), bags_with, (BagTree([[0]], [None]), 1)),
    (("BadNumber", "weights"), middle_bag, (BagTree([[0]], [None]), [])),
    (("BadWeb", "turns"), Web, ([[1]],)),
    (("BadWeb", "web"), seated, (None,)),
    (("BadFace", "outer"), parted, (NEST, (1, 2, 3))),
    (("BadFace", "ring"), within, (NEST, (1, 2))),
    (("BadFace", "door"), door_walk, (NEST, [1] * 7, (1, 2))),
    (("BadColours", "colours"), full_faces, (NEST, [1] * 6)),
    (("BadColours", "known"), leg_colours, (NEST, (1, 3, 2), [])),
    (("BadTree", "bags"), BagTree, ([], [])),
    (("BadTree", "above"), BagTree, ([[]], [0])),
    (("BadTree", "pieces"), BagTree, ([[0], [], [0]], [None, 0, 1])),
    (("BadTree", "tree"), restricted, (None, [])),
    (("BadSeats", "one"), are_near, (Seats([], [[0]], [None]), None, None)),
    (("BadWord", "word"), first_repeat, ([-1],)),
    (("BadLot", "pieces"), restricted, (BagTree([[0]], [None]), [0, 0])),
    (("BadLot", "order"), tree_of, ([], [])),
    (("BadNames", "names"), renamed, (PATH, [1])),
    (("BadPaper", "value"), are_near, (None, None, None)),
    (("Misfit", "web"), seated, (SPLIT,)),
    (("Misfit", "outer"), met_face, (NEST, [1] * 7, (1, 3, 2))),
    (("Misfit", "ring"), cut, (NEST, (1, 3, 2), (1, 3, 2), (0, 1, 2))),
    (("Misfit", "ties"), tree_of, ([0, 1, 2], [(0, 1), (0, 2)])),
    (("Misfit", "lists"), chosen_word, ([[0]],)),
    (("TooMany", "places", 1000), floor, (1000, 1000)),
    (("TooMany", "places", 150), seated, (Web(paths(151)),)),
    (("TooMany", "lists", 8), count_words, ([[]] * 9,)),
    (("BadNumber", "many"), line_colours, (2001,)),
    (("BadNumber", "many"), is_line_walk, ([0], -1)),
    (("BadColours", "colours"), judged_line, ([-1],)),
    (("TooMany", "colours", 400), judged_line, ([0] * 401,)),
    (("BadTree", "tree"), tree_colours, (None,)),
    (("Misfit", "web"), map_colours, (SPLIT,)),
    (("BadColours", "colours"), judged_walks, (PATH, None)),
    (("Misfit", "colours"), judged_walks, (PATH, [0, 1])),
    (("TooMany", "places", 40), judged_walks, (Web(paths(41)), [0] * 41)),
    (("BadNumber", "most"), judged_ways, (PATH, [0, 1], 5)),
    (("TooMany", "places", 24), judged_ways, (Web(paths(25)), [0] * 25, 4)),
    (("BadLabel", "label"), told_label, ("0 0 0",)),
    (("BadSeats", "seat"), label_text, ((0, 1000, 0), [])),
    (("BadLabel", "near"), label_text, ((0, 0, 0), [])),
    (("BadLabel", "one"), are_tied, ("", "")),
    (("BadLabel", "other"), are_tied, ("0 0 0 / 0 000000000", "")),
    (("TooMany", "places", 150), labels_of, (Web(paths(151)),)),
    (("TooMany", "places", 24), best_lot, (Web(paths(25)),)),
    (("BadNumber", "k"), shares_of, (PATH, 4)),
    (("Misfit", "web"), parting_of, (SPLIT,)),
    (("BadLot", "lot"), rests_without, (PATH, [4])),
    (("BadPaper", "value"), picture_of, (Seats([[0, 0, 3]], [], []),)),
    (("TooMany", "layers", 1000), picture_of, (Seats([[0, 1000, 0]], [], []),)),
    (("BadSeats", "picture"), seats_in, (["0 :"],)),
    (("BadNames", "lines"), Desk.read, ("",)),
    (("NoName", "a"), Desk().tell, ("drop a",)),
    (("NoName", 4), Desk.read(["ring a 3"]).tell, ("seat a 4",)),
    (("Twice", "a"), Desk.read(["ring a 3"]).tell, ("ring a 4",)),
    (("Misfit", "way"), Desk.read(["ring a 3"]).tell, ("sees a 1 1",)),
    (("BadText", 0, 3), Desk().tell, ("ring a 3 4",)),
    (("BadText", 0, 2), Web.read, ("2 / -",)),
    (("BadText", 0, 4), BagTree.read, ("- : 0 2 1",)),
)


class Errors(unittest.TestCase):
    def test_all_are_there_and_no_others(self):
        classes = {name for name, worth in vars(errors).items() if inspect.isclass(worth)}
        self.assertEqual(classes, {"LaneError", *FIELDS})

    def test_each_stands_directly_below_lane_error(self):
        self.assertEqual(LaneError.__bases__, (ValueError,))
        for name in FIELDS:
            self.assertEqual(getattr(errors, name).__bases__, (LaneError,), name)

    def test_fields_are_kept_as_they_were_passed(self):
        values = [["x", [1]], {"a": []}]
        for name, fields in FIELDS.items():
            own = values[: len(fields)]
            made = getattr(errors, name)
            by_place = made(*own)
            by_name = made(**dict(zip(fields, own)))
            for error in (by_place, by_name):
                for field, value in zip(fields, own):
                    self.assertIs(getattr(error, field), value, name)

    def test_fields_of_any_kind(self):
        for name, fields in FIELDS.items():
            made = getattr(errors, name)
            for value in ANYTHING:
                for error in (made(*[value] * len(fields)), made(**{field: value for field in fields})):
                    self.assertTrue(all(getattr(error, field) is value for field in fields), name)

    def test_what_calls_raise_is_caught_as_lane_error(self):
        for wanted, call, values in CALLS:
            with self.assertRaises(LaneError) as caught:
                call(*values)
            error = caught.exception
            fields = FIELDS[type(error).__name__]
            self.assertEqual((type(error).__name__, *[getattr(error, field) for field in fields]), wanted)

    def test_parameters_are_the_fields(self):
        for name, fields in FIELDS.items():
            parameters = tuple(inspect.signature(getattr(errors, name)).parameters)
            self.assertEqual(parameters, fields, name)

    def test_each_is_caught_as_lane_error(self):
        for name, fields in FIELDS.items():
            with self.assertRaises(LaneError) as caught:
                raise getattr(errors, name)(*[None for _ in fields])
            self.assertEqual([getattr(caught.exception, field) for field in fields], [None for _ in fields])


if __name__ == "__main__":
    unittest.main()
