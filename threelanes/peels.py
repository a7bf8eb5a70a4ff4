"""Orders that peel trees of bags, and middle bags."""

from threelanes.bags import want_tree
from threelanes.checks import are_unlike, is_row, is_within
from threelanes.errors import BadNumber
from threelanes.papers import Paper
from threelanes.trees import are_two_by_two, fresh_in, from_top, pairs_in, tied_behind


class Peeled(Paper):
    """An order of pieces that peels a tree of bags."""

    def __init__(self, order):
        super().__init__("peeled", order)
        self.order = self.parts[0]


class Middle(Paper):
    """The index of a middle bag."""

    def __init__(self, at):
        super().__init__("middle", at)
        self.at = self.parts[0]


def peeled(tree):
    """A Peeled of a tree of bags."""
    want_tree(tree)
    # The tied pieces behind a piece all stand in the uppermost bag that has it.
    fresh = fresh_in(tree.bags, tree.above)
    return Peeled([piece for at in reversed(from_top(tree.above)) for piece in fresh[at]])


def middle_bag(tree, weights):
    """The Middle of a tree of bags whose pieces have weights."""
    want_tree(tree)
    _want_weights(tree, weights)
    order = from_top(tree.above)
    loads = _loads_of(tree, weights, order)
    whole = sum(weights)
    # No two of these are beside one another, as together they would have more than all: so the last is the deepest.
    heavy = [at for at in order if 2 * loads[at] > whole]
    return Middle(heavy[-1] if heavy else order[0])


def shows_peeled(tree, value):
    """Whether any value is a Peeled whose order peels a tree of bags."""
    want_tree(tree)
    if not isinstance(value, Peeled) or not are_unlike(value.order, 0):
        return False
    if sorted(value.order) != list(tree.pieces):
        return False
    pairs = pairs_in(tree.bags, tree.above)
    behind = tied_behind(value.order, pairs)
    return all([len(row) <= tree.width for row in behind]) and are_two_by_two(behind, pairs)


def shows_middle(tree, weights, value):
    """Whether any value is the Middle of a middle bag."""
    want_tree(tree)
    _want_weights(tree, weights)
    if not isinstance(value, Middle) or not is_within(value.at, 0, len(tree.bags) - 1):
        return False
    whole = sum(weights)
    return all([2 * load <= whole for load in _loads_without(tree, weights, tree.bags[value.at])])


def _want_weights(tree, weights):
    """Raises BadNumber("weights") for no list of a weight for each piece."""
    if not is_row(weights, 0, None) or len(weights) != len(tree.pieces):
        raise BadNumber("weights")


def _loads_of(tree, weights, order):
    """For each bag the weight of the pieces that stand in it or beneath it, but not above it."""
    worth = dict(zip(tree.pieces, weights))
    loads = [sum([worth[piece] for piece in row]) for row in fresh_in(tree.bags, tree.above)]
    for at in reversed(order):
        over = tree.above[at]
        if over is not None:
            loads[over] += loads[at]
    return loads


def _loads_without(tree, weights, gone):
    """The weights of the lots of pieces that are joined by ties without some pieces."""
    worth = dict(zip(tree.pieces, weights))
    out = {piece: True for piece in gone}
    lots = {}
    loads = []
    for at in from_top(tree.above):
        left = [piece for piece in tree.bags[at] if piece not in out]
        known = [lots[piece] for piece in left if piece in lots]
        # Those that are known stand in the bag above, too: so they are of one lot.
        lot = known[0] if known else len(loads)
        if not known:
            loads.append(0)
        for piece in left:
            if piece not in lots:
                lots[piece] = lot
                loads[lot] += worth[piece]
    return loads
