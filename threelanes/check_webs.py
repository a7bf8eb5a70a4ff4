"""Whether papers about webs are right."""

from threelanes.checks import is_integer, is_lot
from threelanes.faces import Apart, Flat, Handles, judged_flat
from threelanes.webs import want_web


def shows_flat(web, value):
    """Whether any value is a right Flat, Apart or Handles of a web."""
    want_web(web)
    if isinstance(value, Apart):
        return _are_apart(web, value.places)
    if not isinstance(value, Flat) and not isinstance(value, Handles):
        return False
    # To Python True is equal to 1, but a truth stands for no number in a paper.
    return all([is_integer(part) for part in value.parts]) and value == judged_flat(web)


def _are_apart(web, value):
    """Whether any value is a lot of some places, but not all, out of which no tie leads."""
    if not is_lot(value) or len(value) == 0 or len(value) >= web.many or max(value) > web.many:
        return False
    inside = {place: True for place in value}
    return all([other in inside for place in value for other in web.turns[place - 1]])
