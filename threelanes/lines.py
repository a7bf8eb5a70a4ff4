"""Lines: colours of their places, and walks on them."""

from threelanes.checks import is_row
from threelanes.errors import BadColours, TooMany
from threelanes.papers import Denial, Paper
from threelanes.wants import want_number
from threelanes.words import first_repeat, is_repeat, is_word, plain_word

MOST_PLACES = 2000
MOST_TO_JUDGE = 400
FURTHER_SIGN = 3


class Calm(Paper):
    """Colours of a line are calm."""

    def __init__(self):
        super().__init__("calm")


class Stray(Denial):
    """A walk on a line sees a repeat, and is not alike both times."""

    def __init__(self, walk):
        super().__init__("stray", walk)
        self.walk = self.parts[0]


def line_colours(many):
    """Calm colours of a line of so many places."""
    want_number(many, 0, MOST_PLACES, "many")
    return line_row(many)


def line_row(many):
    """The same for any number of places: a tree of bags may have a layer more than a line has places."""
    signs = plain_word(many - many // 3)
    return tuple([FURTHER_SIGN if at % 3 == 2 else signs[at - at // 3] for at in range(many)])


def is_line_walk(value, many):
    """Whether any value is a walk on a line of so many places."""
    want_number(many, 0, None, "many")
    if not is_row(value, 0, many - 1) or len(value) == 0:
        return False
    return all([abs(one - other) <= 1 for one, other in zip(value, value[1:])])


def judged_line(colours):
    """A Calm of calm colours of a line, or a Stray."""
    _want_line(colours)
    walk = _stray_walk(colours)
    return Calm() if walk is None else Stray(walk)


def shows_line(colours, value):
    """Whether any value is a right Calm or Stray of colours of a line."""
    _want_line(colours)
    if isinstance(value, Stray):
        return _is_stray(colours, value.walk)
    return isinstance(value, Calm) and _stray_walk(colours) is None


def _want_line(colours):
    """Raises errors for what is no word, or one of too many signs."""
    if not is_word(colours):
        raise BadColours("colours")
    if len(colours) > MOST_TO_JUDGE:
        raise TooMany("colours", MOST_TO_JUDGE)


def _stray_walk(colours):
    """A walk that sees a repeat and is not alike both times; None if there is none."""
    repeat = first_repeat(colours)
    if repeat is not None:
        begin, half = repeat
        return list(range(begin, begin + 2 * half))
    # Where no colour stands twice in succession, two of three places can be alike only at both ends.
    for at in range(len(colours) - 2):
        if colours[at] == colours[at + 2]:
            return [at + 1, at, at + 1, at + 2]
    return None


def _is_stray(colours, value):
    """Whether any value is a walk that sees a repeat and is not alike both times."""
    if not is_line_walk(value, len(colours)):
        return False
    return is_repeat([colours[place] for place in value]) and not is_repeat(value)
