"""Lots of places of which no two are tied."""

from threelanes.checks import is_lot


def is_lot_of(web, value):
    """Whether any value is a lot of places of a web."""
    return is_lot(value) and max(value, default=0) <= web.many


def is_untied(web, lot):
    """Whether no two places of a lot are tied."""
    inside = {place: True for place in lot}
    return not any([other in inside for place in lot for other in web.turns[place - 1]])


def greatest_untied(web, places):
    """A greatest untied lot of some places of a web, ascending."""
    inside = {place: True for place in places}
    near = {place: [other for other in web.turns[place - 1] if other in inside] for place in places}
    order = _order_of(near)
    bits = {place: 1 << at for at, place in enumerate(order)}
    # Lots of the places gone through that bar the same further places can all go on alike: one of the greatest is kept.
    lots = {0: ()}
    for place in order:
        further = sum([bits[other] for other in near[place] if bits[other] > bits[place]])
        lots = _gone_on(lots, place, bits[place], further)
    return tuple(sorted(lots[0]))


def _gone_on(lots, place, bit, further):
    """The lots, by the bits of the places that they bar, without or with a place that bars further ones."""
    told = {}
    for barred, lot in lots.items():
        _keep_greater(told, barred & ~bit, lot)
        if (barred & bit) == 0:
            _keep_greater(told, barred | further, lot + (place,))
    return told


def _keep_greater(told, barred, lot):
    """Keeps a lot unless one that is as great stands there."""
    if barred not in told or len(told[barred]) < len(lot):
        told[barred] = lot


def _order_of(near):
    """An order of places in which at each moment few of those to come are tied to those ahead."""
    left = {place: True for place in near}
    edge = {}
    order = []
    while left:
        _, place = min([(_growth(near, left, edge, place), place) for place in left])
        del left[place]
        edge.pop(place, None)
        for other in near[place]:
            if other in left:
                edge[other] = True
        order.append(place)
    return order


def _growth(near, left, edge, place):
    """By how many the places to come that are tied to those ahead are more, if a place is the next one."""
    fresh = len([other for other in near[place] if other in left and other not in edge])
    return fresh - 1 if place in edge else fresh
