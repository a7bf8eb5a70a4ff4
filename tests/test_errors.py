"""The errors: where they stand, and what they keep."""

import inspect
import unittest

from threelanes import errors
from threelanes.errors import LaneError

FIELDS = {
    "BadNumber": ("part",),
    "BadWeb": ("part",),
    "BadFace": ("part",),
    "BadColours": ("part",),
    "BadTree": ("part",),
    "BadSeats": ("part",),
    "BadWord": ("part",),
    "BadLabel": ("part",),
    "BadLot": ("part",),
    "BadNames": ("part",),
    "BadPaper": ("part",),
    "Misfit": ("part",),
    "NoName": ("value",),
    "Twice": ("value",),
    "TooMany": ("what", "most"),
    "BadText": ("line", "item"),
    "BadLine": ("line", "error"),
}


class Errors(unittest.TestCase):
    def test_all_are_there_and_no_others(self):
        classes = {name for name, worth in vars(errors).items() if inspect.isclass(worth)}
        self.assertEqual(classes, {"LaneError", *FIELDS})

    def test_each_stands_directly_below_lane_error(self):
        self.assertEqual(LaneError.__bases__, (ValueError,))
        for name in FIELDS:
            self.assertEqual(getattr(errors, name).__bases__, (LaneError,), name)

    def test_fields_are_kept_as_they_were_passed(self):
        values = [["x", [1]], {"a": []}]
        for name, fields in FIELDS.items():
            own = values[: len(fields)]
            made = getattr(errors, name)
            by_place = made(*own)
            by_name = made(**dict(zip(fields, own)))
            for error in (by_place, by_name):
                for field, value in zip(fields, own):
                    self.assertIs(getattr(error, field), value, name)

    def test_parameters_are_the_fields(self):
        for name, fields in FIELDS.items():
            parameters = tuple(inspect.signature(getattr(errors, name)).parameters)
            self.assertEqual(parameters, fields, name)

    def test_each_is_caught_as_lane_error(self):
        for name, fields in FIELDS.items():
            with self.assertRaises(LaneError) as caught:
                raise getattr(errors, name)(*[None for _ in fields])
            self.assertEqual([getattr(caught.exception, field) for field in fields], [None for _ in fields])


if __name__ == "__main__":
    unittest.main()
