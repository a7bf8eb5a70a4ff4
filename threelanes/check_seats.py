"""Whether papers about seats are right."""

from threelanes.checks import is_list
from threelanes.fills import want_flat
from threelanes.seats import Seats, is_seat, may_be_tied
from threelanes.trees import is_narrow_tree, pairs_in


def shows_seats(web, value):
    """Whether any value is right Seats of a flat web."""
    want_flat(web)
    if not isinstance(value, Seats) or not is_narrow_tree(value.bags, value.above):
        return False
    if not _are_seats(web, value.seats):
        return False
    pairs = pairs_in(value.bags, value.above)
    if not all([(seat[0], seat[0]) in pairs for seat in value.seats]):
        return False
    return all([may_be_tied(pairs, value.seats[one - 1], value.seats[other - 1]) for one, other in web.ties])


def _are_seats(web, value):
    """Whether any value is a list of unlike seats, one for each place."""
    if not is_list(value) or len(value) != web.many or not all([is_seat(seat) for seat in value]):
        return False
    return len(set(value)) == len(value)
