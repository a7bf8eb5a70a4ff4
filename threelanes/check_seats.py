"""Whether papers about seats are right."""

from threelanes.fills import want_flat
from threelanes.seats import Seats, are_unlike_seats, may_be_tied
from threelanes.trees import is_narrow_tree, pairs_in


def shows_seats(web, value):
    """Whether any value is right Seats of a flat web."""
    want_flat(web)
    if not isinstance(value, Seats) or not is_narrow_tree(value.bags, value.above):
        return False
    if not are_unlike_seats(value.seats) or len(value.seats) != web.many:
        return False
    pairs = pairs_in(value.bags, value.above)
    if not all([(seat[0], seat[0]) in pairs for seat in value.seats]):
        return False
    return all([may_be_tied(pairs, value.seats[one - 1], value.seats[other - 1]) for one, other in web.ties])
