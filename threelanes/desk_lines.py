"""The lines that a desk can be told."""

from threelanes.errors import BadText
from threelanes.texts import items_of, number_in
from threelanes.webs import Web

LETTERS = "abcdefghijklmnopqrstuvwxyz"
DIGITS = "0123456789"
MOST_SIGNS = 12
MOST_NUMBER = 1000
MOST_ON_WAY = 40

NAME = "name"
NUMBER = "number"

# The forms of the items behind the first one. What stands behind the name in a line with web is a text of its own.
FORMS = {
    "ring": (NAME, NUMBER),
    "wheel": (NAME, NUMBER),
    "floor": (NAME, NUMBER, NUMBER),
    "copy": (NAME, NAME),
    "mirror": (NAME, NAME),
    "put": (NAME, NUMBER, NUMBER, NUMBER),
    "flip": (NAME, NUMBER, NUMBER),
    "seat": (NAME, NUMBER),
    "near": (NAME, NUMBER, NUMBER),
    "label": (NAME, NUMBER),
    "tied": (NAME, NUMBER, NUMBER),
    "colour": (NAME, NUMBER),
    "sees": (NAME, NUMBER),
    "lots": (NAME, NUMBER),
    "drop": (NAME,),
}


def line_in(line):
    """The word with which a line begins, its name, and a list of what else it tells."""
    items = items_of(line)
    word = items[0]
    if word == "web":
        name = _values_in(items[:2], (NAME,), ())[0]
        return word, name, [_web_behind(items, 2)]
    if word not in FORMS:
        raise BadText(0, 0)
    further = (NUMBER,) * (MOST_ON_WAY - 1) if word == "sees" else ()
    name, *values = _values_in(items, FORMS[word], further)
    return word, name, values


def _values_in(items, wanted, further):
    """What the items behind the first one tell, by the forms that are wanted, and those that may stand behind them."""
    forms = wanted + further
    values = []
    for index, item in enumerate(items[1:]):
        value = _value_in(item, forms[index]) if index < len(forms) else None
        if value is None:
            raise BadText(0, index + 1)
        values.append(value)
    if len(values) < len(wanted):
        raise BadText(0, len(items))
    return values


def _value_in(item, form):
    """The name or the number that an item tells; None for none."""
    if form == NUMBER:
        return number_in(item, 1, MOST_NUMBER)
    return item if _is_name(item) else None


def _is_name(item):
    """Whether an item is a name."""
    if not 1 <= len(item) <= MOST_SIGNS or item[0] in DIGITS:
        return False
    return all([sign in LETTERS or sign in DIGITS for sign in item])


def _web_behind(items, first):
    """The web whose text stands behind the first items, so many, of a line."""
    try:
        return Web.read(" ".join(items[first:]))
    except BadText as wrong:
        raise BadText(0, first + wrong.item)
