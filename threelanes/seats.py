"""Seats of flat webs: a piece, a layer and a lane for each place."""

from threelanes.checks import is_list, is_row
from threelanes.errors import BadPaper, BadSeats
from threelanes.faces import faces_of
from threelanes.fills import filled, want_flat
from threelanes.layers import layers_of
from threelanes.papers import Paper
from threelanes.pieces import parted
from threelanes.trees import is_narrow_tree, pairs_in

LANES = 3


class Seats(Paper):
    """A seat for each place, and a tree of bags of the seats' pieces."""

    def __init__(self, seats, bags, above):
        super().__init__("seats", seats, bags, above)
        self.seats, self.bags, self.above = self.parts


def seated(web):
    """The Seats of a flat web."""
    want_flat(web)
    if web.many < 3:
        return Seats([(0, 0, lane) for lane in range(web.many)], [[0]], [None])
    full = filled(web)
    outer = faces_of(full)[0]
    told = parted(full, outer)
    layers = layers_of(full, outer)
    return Seats(_seats_at(list(zip(told.pieces, layers))[: web.many]), told.bags, told.above)


def are_near(value, one, other):
    """Whether two seats are unlike, and tied places may have them."""
    if not isinstance(value, Seats) or not is_narrow_tree(value.bags, value.above):
        raise BadPaper("value")
    want_seat(one, "one")
    want_seat(other, "other")
    return tuple(one) != tuple(other) and may_be_tied(pairs_in(value.bags, value.above), one, other)


def is_seat(value):
    """Whether any value is a seat."""
    return is_row(value, 0, None) and len(value) == 3 and value[2] < LANES


def are_unlike_seats(value):
    """Whether any value is a list, perhaps of none, of unlike seats."""
    if not is_list(value) or not all([is_seat(seat) for seat in value]):
        return False
    return len(set([tuple(seat) for seat in value])) == len(value)


def want_seat(value, part):
    """Raises BadSeats(part) for what is no seat."""
    if not is_seat(value):
        raise BadSeats(part)


def may_be_tied(pairs, one, other):
    """Whether the layers of two seats are at most one apart, and their pieces are equal or one of the pairs."""
    if abs(one[1] - other[1]) > 1:
        return False
    return one[0] == other[0] or tuple(sorted([one[0], other[0]])) in pairs


def _seats_at(spots):
    """A seat for each pair of a piece and a layer, equal pairs in lanes one beside another."""
    counts = {}
    seats = []
    for piece, layer in spots:
        lane = counts.get((piece, layer), 0)
        counts[(piece, layer)] = lane + 1
        seats.append((piece, layer, lane))
    return seats
