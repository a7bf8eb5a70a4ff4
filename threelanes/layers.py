"""Layers and legs: how far the places of a filled web are from its outer face."""

from threelanes.checks import is_list, is_lot, is_within
from threelanes.errors import BadColours
from threelanes.faces import faces_of, want_three_corners
from threelanes.fills import filled, want_filled, want_flat
from threelanes.wants import want_number
from threelanes.webs import want_web


def layers_of(web, outer):
    """The layers of all places."""
    want_outer(web, outer)
    want_filled(web)
    layers = [None] * web.many
    for place in outer:
        layers[place - 1] = 0
    last = list(outer)
    layer = 0
    while last:
        layer += 1
        last = _free_around(web, layers, last)
        for place in last:
            layers[place - 1] = layer
    return tuple(layers)


def uppers_of(web, outer):
    """The upper ones of all places, with 0 for places of layer 0."""
    layers = layers_of(web, outer)
    return tuple([_upper(turn, layers, layer - 1) for turn, layer in zip(web.turns, layers)])


def leg_of(web, outer, place):
    """The leg of a place: the place, its upper one, and so on up to layer 0."""
    want_outer(web, outer)
    want_number(place, 1, web.many, "place")
    uppers = uppers_of(web, outer)
    leg = [place]
    while uppers[leg[-1] - 1] > 0:
        leg.append(uppers[leg[-1] - 1])
    return tuple(leg)


def leg_colours(web, outer, known):
    """For each place the colour of the first place of its leg that is known."""
    want_outer(web, outer)
    if not _are_known(web, outer, known):
        raise BadColours("known")
    uppers = uppers_of(web, outer)
    colours = {place: colour for place, colour in known}
    return tuple([_first_colour(place, uppers, colours) for place in range(1, web.many + 1)])


def map_layers(web):
    """The layers of all places of a flat web, from the first face of the filled web on."""
    want_flat(web)
    if web.many < 3:
        return (0,) * web.many
    full = filled(web)
    return layers_of(full, faces_of(full)[0])[: web.many]


def want_outer(web, outer):
    """Raises BadWeb("web"), or BadFace("outer") for what is no outer face."""
    want_web(web)
    want_three_corners(web, outer, "outer")


def _free_around(web, layers, places):
    """The places without a layer that are tied to some places."""
    found = {other: True for place in places for other in web.turns[place - 1] if layers[other - 1] is None}
    return list(found)


def _upper(turn, layers, layer):
    """The least place of a turn that is of a layer; 0 if there is none."""
    return min([place for place in turn if layers[place - 1] == layer], default=0)


def _are_known(web, outer, value):
    """Whether any value is a list of pairs of unlike places, outer ones among them, and colours."""
    if not is_list(value) or not all([_is_known(web, pair) for pair in value]):
        return False
    places = [pair[0] for pair in value]
    return is_lot(places) and all([place in places for place in outer])


def _is_known(web, value):
    """Whether any value is a pair of a place and a colour."""
    return is_list(value) and len(value) == 2 and is_within(value[0], 1, web.many) and is_within(value[1], 1, 3)


def _first_colour(place, uppers, colours):
    """The colour of the first place of a leg that has one."""
    at = place
    while at not in colours:
        at = uppers[at - 1]
    return colours[at]
