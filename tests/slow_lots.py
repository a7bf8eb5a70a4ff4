"""Slow ways to ask for untied lots, shares, and lots that part a web, apart from the package."""

import functools
import math

from tests.drawn import slow_faces
from tests.slow import is_number, is_row, slow_layers
from threelanes.fills import filled
from threelanes.webs import Web


def is_slow_lot(web, value):
    """Whether any value is a lot of places of a web."""
    if not is_row(value) or not all(is_number(place) and 1 <= place <= web.many for place in value):
        return False
    return len(set(value)) == len(value)


def is_slow_untied(web, lot):
    """Whether no two places of a lot are tied."""
    return not any(one in lot and other in lot for one, other in web.ties)


def greatest_size(web, places):
    """How many places a greatest untied lot of some places has."""
    return _greatest(web.turns, frozenset(places))


@functools.cache
def _greatest(turns, places):
    """The same, kept for a web and places that were asked for already."""
    near = {place: set(turns[place - 1]) & places for place in places}
    return _size(near, places, {})


def _size(near, left, known):
    """The same for those that are left: a place of at most one tie may stand, another one stands or does not."""
    if not left:
        return 0
    if left not in known:
        ties = {place: len(near[place] & left) for place in left}
        few = min(left, key=lambda place: (ties[place], place))
        if ties[few] < 2:
            known[left] = 1 + _size(near, left - near[few] - {few}, known)
        else:
            many = max(left, key=lambda place: (ties[place], place))
            with_it = 1 + _size(near, left - near[many] - {many}, known)
            known[left] = max(with_it, _size(near, left - {many}, known))
    return known[left]


def slow_map_layers(web):
    """The layers of the places of a flat web."""
    return list(_layers(web.turns))


@functools.cache
def _layers(turns):
    """The same, kept for a web that was asked for already."""
    if len(turns) < 3:
        return [0] * len(turns)
    full = filled(Web(turns))
    return slow_layers(full, slow_faces(full.turns)[0])[: len(turns)]


def places_of_rest(web, k, rest):
    """The places of the layers that do not leave a rest."""
    return [place for place, layer in enumerate(slow_map_layers(web), start=1) if layer % k != rest]


def are_slow_shares(web, k, value):
    """Whether any value is a list of shares by k."""
    if not is_row(value) or len(value) != k:
        return False
    for rest, lot in enumerate(value):
        places = places_of_rest(web, k, rest)
        if not is_slow_lot(web, lot) or not is_slow_untied(web, lot) or not set(lot) <= set(places):
            return False
        if len(lot) != greatest_size(web, places):
            return False
    return True


def slow_rests(web, gone):
    """The lots of places that are joined without some, ascending."""
    left = set(range(1, web.many + 1)) - set(gone)
    rests = []
    while left:
        lot = {min(left)}
        while any(other in left - lot for place in lot for other in web.around(place)):
            lot |= {other for place in lot for other in web.around(place) if other in left}
        rests.append(tuple(sorted(lot)))
        left -= lot
    return tuple(sorted(rests))


def most_places(web):
    """How many places a lot that parts a flat web may have."""
    side = math.ceil(math.sqrt(web.many))
    while (side - 1) ** 2 >= web.many:
        side -= 1
    return min(26 * side - 12, 12 * len(set(slow_map_layers(web))))


def parts_web(web, value):
    """Whether any value is a lot that parts a web, of as many places as are told."""
    if not is_slow_lot(web, value) or len(value) > most_places(web):
        return False
    return all(2 * len(rest) <= web.many for rest in slow_rests(web, value))
