"""Items and integers of texts."""

import unittest

from tests.tools import LISTS, NUMBERS, ODD, LaneCase
from threelanes.texts import items_of, number_in, number_text


class Texts(LaneCase):
    def test_items(self):
        for text, items in (("", [""]), (" ", ["", ""]), ("a  b", ["a", "", "b"]), ("1\t2", ["1\t2"])):
            self.assertEqual(items_of(text), items)
        for value in ODD + NUMBERS + LISTS:
            self.raises("BadText(0, 0)", items_of, value)

    def test_integers(self):
        for number in (0, 1, -1, 10, -10, 907, 10**139, 10**140 - 1, 1 - 10**140):
            self.assertEqual(number_in(str(number), None, None), number)
        for item in ("", "-", "--1", "+1", "-0", "00", "01", "-01", "1-", "1.0", "1_0", " 1", "1\n", "x", "\u0661", "\u00b9"):
            self.assertIsNone(number_in(item, None, None), item)

    def test_integers_of_more_than_140_digits(self):
        for item in ("1" * 141, "-" + "1" * 141, "1" * 20000, "0" * 20000, str(10**140)):
            self.assertIsNone(number_in(item, None, None))

    def test_bounds(self):
        wanted = {"0": None, "1": 1, "9": 9, "10": None, "-1": None}
        self.assertEqual({item: number_in(item, 1, 9) for item in wanted}, wanted)
        self.assertEqual([number_in("-7", None, 0), number_in("-7", -6, None), number_in("7", 7, None)], [-7, None, 7])

    def test_integers_that_are_written(self):
        for number in (0, 1, 9, 10, 10**59, 10**60 - 1, 10**60, 10**60 + 1, 10**120 - 1, 10**120, 7 * 10**130 + 5, 3**8000):
            self.assertEqual(number_text(number), str(number))
        self.assertEqual(number_text(10**9000 + 8), "1" + "0" * 8999 + "8")


if __name__ == "__main__":
    unittest.main()
