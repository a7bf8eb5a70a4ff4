"""Checks of any values."""

import unittest

from tests.tools import ANYTHING, LISTS, NUMBERS, ODD, STRINGS
from threelanes.checks import are_unlike, is_integer, is_just, is_lot, is_row, is_within


class Checks(unittest.TestCase):
    def test_integers(self):
        for value in NUMBERS:
            self.assertIs(is_integer(value), True)
        for value in ODD + LISTS + STRINGS:
            self.assertIs(is_integer(value), False)

    def test_within_bounds(self):
        for value, least, most, wanted in (
            (3, 3, 3, True),
            (3, 4, 3, False),
            (2, 3, 5, False),
            (3, 3, 5, True),
            (5, 3, 5, True),
            (6, 3, 5, False),
            (0, None, 0, True),
            (1, None, 0, False),
            (-(10**300), None, 0, True),
            (0, 0, None, True),
            (-1, 0, None, False),
            (10**300, 0, None, True),
            (-7, None, None, True),
        ):
            self.assertIs(is_within(value, least, most), wanted, (value, least, most))

    def test_nothing_but_integers_is_within(self):
        for value in ODD + LISTS + STRINGS:
            for least, most in ((None, None), (0, None), (None, 9), (-9, 9)):
                self.assertIs(is_within(value, least, most), False, value)

    def test_by_name(self):
        self.assertIs(is_integer(value=1), True)
        self.assertIs(is_within(most=None, least=2, value=1), False)
        self.assertIs(is_lot(value=[1]), True)

    def test_lots(self):
        for value in ([], (), [1], (1,), [3, 1, 2], (10**50, 1), list(range(1, 2001))):
            self.assertIs(is_lot(value), True)
        for value in ([1, 1], (2, 1, 2), [0], [-1, 1], [True], [1, True], [2, None], [1.0], ["1"], [[1]], [(1,), 2]):
            self.assertIs(is_lot(value), False, value)

    def test_what_is_no_list_is_no_lot(self):
        for value in ODD + NUMBERS + STRINGS:
            self.assertIs(is_lot(value), False, value)
        for value in ANYTHING:
            self.assertIs(is_lot([value, value]), False, value)

    def test_rows(self):
        for value in ([], (), [0], (0, 0), [3, 0, 10**50]):
            self.assertIs(is_row(value, 0, None), True)
        self.assertEqual([is_row([1, 3], 1, 3), is_row([1, 3], 2, 3), is_row((1, 3), 1, 2)], [True, False, False])
        self.assertEqual([are_unlike(value, 0) for value in ([], (0, 1), [1, 0], [1, 1], [-1])], [True] * 3 + [False] * 2)
        self.assertIs(is_row(NUMBERS, None, None), True)
        for value in ODD + STRINGS:
            self.assertIs(is_row(value, None, None), False, value)
            self.assertIs(is_row([1, value], None, None), False, value)

    def test_what_is_just_wanted(self):
        wanted = ((1, 2), (), 3)
        for value in (wanted, [(1, 2), [], 3], ([1, 2], (), 3)):
            self.assertIs(is_just(value, wanted), True)
        for value in ((True, 2), (1, 2, 3), [1], (2, 1), 1, (1.0, 2), (1, "2"), None):
            self.assertIs(is_just((value, (), 3), wanted), False)
        for value in ANYTHING:
            self.assertIs(is_just(value, wanted), False)


if __name__ == "__main__":
    unittest.main()
