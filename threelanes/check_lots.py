"""Whether papers about lots are right."""

from threelanes.checks import is_list
from threelanes.fills import want_flat
from threelanes.lots import Best, Parting, Shares, most_to_part, rests_without, shared_places, want_few, want_to_share
from threelanes.untied import greatest_untied, is_lot_of, is_untied


def shows_best(web, value):
    """Whether any value is a Best of a greatest untied lot of a web."""
    want_few(web)
    return isinstance(value, Best) and _is_greatest(web, list(range(1, web.many + 1)), value.lot)


def shows_shares(web, k, value):
    """Whether any value is a Shares of shares of a flat web."""
    want_to_share(web, k)
    if not isinstance(value, Shares) or not is_list(value.lots) or len(value.lots) != k:
        return False
    return all([_is_greatest(web, places, lot) for places, lot in zip(shared_places(web, k), value.lots)])


def shows_parting(web, value):
    """Whether any value is a Parting of a lot of few places that parts a flat web."""
    want_flat(web)
    if not isinstance(value, Parting) or not is_lot_of(web, value.lot) or len(value.lot) > most_to_part(web):
        return False
    return all([2 * len(rest) <= web.many for rest in rests_without(web, value.lot)])


def _is_greatest(web, places, value):
    """Whether any value is an untied lot of some places of a web that is as great as any."""
    if not is_lot_of(web, value) or not is_untied(web, value):
        return False
    inside = {place: True for place in places}
    return all([place in inside for place in value]) and len(value) == len(greatest_untied(web, places))
