"""Texts: strings of items with single blanks between."""

from threelanes.checks import is_within
from threelanes.errors import BadText

MOST_DIGITS = 140
PART_DIGITS = 60
PART = 10**60


def items_of(text):
    """The items of a text; an empty item is an item, too."""
    if not isinstance(text, str):
        raise BadText(0, 0)
    return text.split(" ")


def number_in(item, least, most):
    """The integer that an item tells; None if it tells none from least to most."""
    digits = item.removeprefix("-")
    # Without isascii the digits of other scripts would count.
    if not digits.isascii() or not digits.isdigit() or len(digits) > MOST_DIGITS:
        return None
    if digits.startswith("0") and item != "0":
        return None
    number = int(item)
    return number if is_within(number, least, most) else None


def number_text(number):
    """The digits of an integer from 0 on."""
    # Python does not write an integer of some thousands of digits at once.
    digits = ""
    while number >= PART:
        number, rest = divmod(number, PART)
        digits = str(rest).zfill(PART_DIGITS) + digits
    return str(number) + digits
