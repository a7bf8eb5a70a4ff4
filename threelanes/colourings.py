"""Sound colours of trees of bags, and of flat webs by their seats."""

from threelanes.bags import BagTree, want_tree
from threelanes.lines import line_colours, line_row
from threelanes.seats import LANES, seated

LINE_COLOURS = 4


def tree_colours(tree):
    """Sound colours for the pieces of a tree of bags."""
    want_tree(tree)
    colours = {piece: 0 for piece in tree.pieces}
    bags = tree.bags
    # Each round takes away one of the width: pieces of a layer that are tied two by two have one above them in common.
    for _ in range(tree.width):
        layers = _layers_in(bags)
        signs = line_row(max(layers.values()) + 1)
        for piece, layer in layers.items():
            colours[piece] = LINE_COLOURS * colours[piece] + signs[layer]
        bags = _parted_by(bags, layers)
    return tuple([colours[piece] for piece in tree.pieces])


def map_colours(web):
    """Sound colours for the places of a flat web."""
    told = seated(web)
    tree = BagTree(told.bags, told.above)
    shades = dict(zip(tree.pieces, tree_colours(tree)))
    signs = line_colours(max([seat[1] for seat in told.seats]) + 1)
    return tuple([_seat_colour(shades[piece], signs[layer], lane) for piece, layer, lane in told.seats])


def _seat_colour(shade, sign, lane):
    """One number for the colours of a piece and of a layer, and a lane."""
    return LANES * (LINE_COLOURS * shade + sign) + lane


def _layers_in(bags):
    """The layers of all pieces: in each part that hangs together they go on from its first piece."""
    holders = {}
    for at, bag in enumerate(bags):
        for piece in bag:
            holders.setdefault(piece, []).append(at)
    left = dict(enumerate(bags))
    layers = {}
    for first in holders:
        last = [] if first in layers else [first]
        layer = 0
        while last:
            for piece in last:
                layers[piece] = layer
            near = _taken_out(left, [at for piece in last for at in holders[piece]])
            last = [piece for piece in near if piece not in layers]
            layer += 1
    return layers


def _taken_out(left, indexes):
    """All pieces of some bags; of these bags none is left."""
    pieces = {}
    for at in indexes:
        for piece in left.pop(at, ()):
            pieces[piece] = True
    return list(pieces)


def _parted_by(bags, layers):
    """The bags, each parted into bags of pieces of one layer."""
    parts = []
    for bag in bags:
        for own in sorted(set([layers[piece] for piece in bag])):
            parts.append([piece for piece in bag if layers[piece] == own])
    return parts
