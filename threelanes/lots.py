"""Untied lots of webs, shares of flat webs, and lots that part webs."""

from math import isqrt

from threelanes.bags import BagTree
from threelanes.errors import BadLot, TooMany
from threelanes.fills import want_flat
from threelanes.layers import map_layers
from threelanes.papers import Paper
from threelanes.peels import middle_bag
from threelanes.seats import seated
from threelanes.untied import greatest_untied, is_lot_of
from threelanes.wants import want_number
from threelanes.webs import want_web

MOST_FOR_BEST = 24


class Best(Paper):
    """A greatest untied lot of a web."""

    def __init__(self, lot):
        super().__init__("best", lot)
        self.lot = self.parts[0]


class Shares(Paper):
    """For each rest an untied lot, as great as any, of the layers that do not leave it."""

    def __init__(self, lots):
        super().__init__("shares", lots)
        self.lots = self.parts[0]


class Parting(Paper):
    """A lot of places without which no joined lot has more than half of a web."""

    def __init__(self, lot):
        super().__init__("parting", lot)
        self.lot = self.parts[0]


def best_lot(web):
    """A Best of any web."""
    want_few(web)
    return Best(greatest_untied(web, list(range(1, web.many + 1))))


def shares_of(web, k):
    """A Shares of a flat web."""
    want_to_share(web, k)
    return Shares([greatest_untied(web, places) for places in shared_places(web, k)])


def parting_of(web):
    """A Parting of a flat web."""
    told = seated(web)
    tree = BagTree(told.bags, told.above)
    pieces = [seat[0] for seat in told.seats]
    # A bag has at most 12 places of a layer. The other bound is never below the number of places of so small a web.
    bag = tree.bags[middle_bag(tree, [pieces.count(piece) for piece in tree.pieces]).at]
    return Parting([place for place, piece in enumerate(pieces, start=1) if piece in bag])


def rests_without(web, lot):
    """The lots of places that are joined in a web without some of its places."""
    want_web(web)
    if not is_lot_of(web, lot):
        raise BadLot("lot")
    out = {place: True for place in lot}
    left = {place: True for place in range(1, web.many + 1) if place not in out}
    rests = []
    for place in list(left):
        if place in left:
            rests.append(_taken_lot(web, left, place))
    return tuple(rests)


def want_few(web):
    """Raises errors for what is no web, or one of too many places for a best lot."""
    want_web(web)
    if web.many > MOST_FOR_BEST:
        raise TooMany("places", MOST_FOR_BEST)


def want_to_share(web, k):
    """Raises the errors of shares_of."""
    want_web(web)
    want_number(k, 2, 3, "k")
    want_flat(web)


def shared_places(web, k):
    """For each rest the places of the layers that do not leave it."""
    layers = list(enumerate(map_layers(web), start=1))
    return [[place for place, layer in layers if layer % k != rest] for rest in range(k)]


def most_to_part(web):
    """How many places a lot that parts a flat web has at most."""
    side = isqrt(web.many - 1) + 1
    return min(26 * side - 12, 12 * (max(map_layers(web)) + 1))


def _taken_lot(web, left, place):
    """The places that are left and joined to a place, ascending; they are taken out of what is left."""
    del left[place]
    lot = [place]
    waiting = [place]
    while waiting:
        here = waiting.pop()
        for other in web.turns[here - 1]:
            if other in left:
                del left[other]
                lot.append(other)
                waiting.append(other)
    return tuple(sorted(lot))
