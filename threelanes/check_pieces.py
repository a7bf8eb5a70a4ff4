"""Whether papers about pieces are right."""

from threelanes.checks import is_row
from threelanes.fills import want_filled
from threelanes.layers import layers_of, want_outer
from threelanes.pieces import Parted
from threelanes.trees import is_narrow_tree, pairs_in

MOST_IN_LAYER = 3


def shows_parted(web, outer, value):
    """Whether any value is a right Parted of a filled web with an outer face."""
    want_outer(web, outer)
    want_filled(web)
    if not isinstance(value, Parted) or not is_narrow_tree(value.bags, value.above):
        return False
    if not _are_pieces(web, value.pieces, value.bags):
        return False
    pairs = pairs_in(value.bags, value.above)
    return _are_paired(web, value.pieces, pairs) and _are_thin(value.pieces, layers_of(web, outer))


def _are_pieces(web, value, bags):
    """Whether any value has a piece for each place, no number left out, none of them missing for the bags."""
    if not is_row(value, 0, None) or len(value) != web.many:
        return False
    many = len(set(value))
    return max(value) == many - 1 and all([piece < many for bag in bags for piece in bag])


def _are_paired(web, pieces, pairs):
    """Whether the pieces of any two tied places are one of the pairs."""
    return all([tuple(sorted([pieces[one - 1], pieces[other - 1]])) in pairs for one, other in web.ties])


def _are_thin(pieces, layers):
    """Whether no piece has too many places of one layer."""
    counts = {}
    for spot in zip(pieces, layers):
        counts[spot] = counts.get(spot, 0) + 1
    return max(counts.values()) <= MOST_IN_LAYER
