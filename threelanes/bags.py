"""Trees of bags, their texts, their ties, and trees that are made of others."""

from threelanes.checks import are_unlike, is_integer, is_list, is_within
from threelanes.errors import BadLot, BadNumber, BadText, BadTree, Misfit
from threelanes.texts import items_of, number_in, number_text
from threelanes.trees import are_bags, are_two_by_two, hang_together, pairs_in, tells_above, tied_behind
from threelanes.wants import want_number

MOST_BAGS = 2000
MOST_PIECES = 1000


class BagTree:
    """A tree of bags of pieces."""

    def __init__(self, bags, above):
        part = _wrong_part(bags, above)
        if part is not None:
            raise BadTree(part)
        self.bags = tuple([tuple(bag) for bag in bags])
        self.above = tuple(above)
        self.pieces = tuple(sorted(set([piece for bag in self.bags for piece in bag])))
        self.width = max(0, max([len(bag) for bag in self.bags]) - 1)

    def __eq__(self, other):
        return isinstance(other, BagTree) and self.bags == other.bags and self.above == other.above

    def __str__(self):
        return " / ".join([_bag_text(bag, over) for bag, over in zip(self.bags, self.above)])

    @staticmethod
    def read(text):
        """The tree of bags with this text."""
        items = items_of(text)
        bags, above = _bags_in(items)
        if _wrong_part(bags, above) is not None:
            raise BadText(0, len(items) - 1)
        return BagTree(bags, above)


def want_tree(tree):
    """Raises BadTree("tree") for what is no tree of bags."""
    if not isinstance(tree, BagTree):
        raise BadTree("tree")


def ties_in(tree):
    """The tied pairs of pieces, the lesser one first, ascending."""
    want_tree(tree)
    return tuple(sorted([pair for pair in pairs_in(tree.bags, tree.above) if pair[0] != pair[1]]))


def bags_with(tree, piece):
    """The indexes of the bags that have a piece, ascending."""
    want_tree(tree)
    if not is_integer(piece) or piece not in tree.pieces:
        raise BadNumber("piece")
    return tuple([at for at, bag in enumerate(tree.bags) if piece in bag])


def restricted(tree, pieces):
    """The tree of bags in which but some of the pieces are left."""
    want_tree(tree)
    if not are_unlike(pieces, 0):
        raise BadLot("pieces")
    kept = {piece: True for piece in pieces}
    return BagTree([[piece for piece in bag if piece in kept] for bag in tree.bags], tree.above)


def path_tree(many):
    """The tree of bags of two pieces each, one behind another."""
    want_number(many, 1, MOST_PIECES, "many")
    if many == 1:
        return BagTree([[0]], [None])
    return BagTree([[at, at + 1] for at in range(many - 1)], [None] + list(range(many - 2)))


def tree_of(order, ties):
    """The tree of bags of an order of pieces, and of ties between them that it peels."""
    if not are_unlike(order, 0) or not is_within(len(order), 1, MOST_PIECES):
        raise BadLot("order")
    ranks = {piece: at for at, piece in enumerate(order)}
    if not is_list(ties) or not all([_is_tie(pair, ranks) for pair in ties]):
        raise BadLot("ties")
    pairs = {tuple(sorted(pair)): True for pair in ties}
    behind = tied_behind(order, pairs)
    if not are_two_by_two(behind, pairs):
        raise Misfit("ties")
    bags = [sorted([piece, *row]) for piece, row in zip(order, behind)]
    above = [ranks[row[0]] if row else at + 1 for at, row in enumerate(behind)]
    return BagTree(bags, above[:-1] + [None])


def _wrong_part(bags, above):
    """The first part of any two values because of which they are no tree of bags; None if they are one."""
    if not are_bags(bags, 0, None) or not is_within(len(bags), 1, MOST_BAGS):
        return "bags"
    if not tells_above(above, len(bags)):
        return "above"
    return None if hang_together(bags, above) else "pieces"


def _is_tie(value, ranks):
    """Whether any value is a pair of unlike pieces that have ranks."""
    return are_unlike(value, 0) and len(value) == 2 and value[0] in ranks and value[1] in ranks


def _bag_text(bag, over):
    """The text of a bag."""
    head = "-" if over is None else number_text(over)
    return " ".join([head, ":"] + [number_text(piece) for piece in bag])


def _bags_in(items):
    """The bags that items tell, and those above them; what only the whole shows is not asked yet."""
    bags = []
    above = []
    wanted = "above"
    for index, item in enumerate(items):
        if wanted == "above":
            above.append(_above_in(item, index))
            bags.append([])
            wanted = ":"
        elif wanted == ":":
            if item != ":":
                raise BadText(0, index)
            wanted = "piece"
        elif item == "/" and len(bags) < MOST_BAGS:
            wanted = "above"
        else:
            piece = number_in(item, bags[-1][-1] + 1 if bags[-1] else 0, None)
            if piece is None:
                raise BadText(0, index)
            bags[-1].append(piece)
    if wanted != "piece":
        raise BadText(0, len(items))
    return bags, above


def _above_in(item, index):
    """The index that an item tells, None for none."""
    over = number_in(item, 0, MOST_BAGS - 1)
    if over is None and item != "-":
        raise BadText(0, index)
    return over
