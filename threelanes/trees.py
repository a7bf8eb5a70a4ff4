"""What trees of bags have in common: bags, what is above them, pieces that hang together."""

from threelanes.checks import is_list, is_row, is_within

MOST_IN_BAG = 4


def are_bags(value, least, most):
    """Whether any value is a list of ascending lots of pieces, least to most in each."""
    return is_list(value) and all([_is_bag(bag, least, most) for bag in value])


def tells_above(value, many):
    """Whether any value tells for each of so many bags the one above it, and None for the top alone."""
    if not is_list(value) or len(value) != many:
        return False
    if not all([over is None or is_within(over, 0, many - 1) for over in value]):
        return False
    tops = [at for at, over in enumerate(value) if over is None]
    return len(tops) == 1 and len(from_top(value)) == many


def hang_together(bags, above):
    """Whether each piece hangs together: in all bags that have it but one, the bag above has it, too."""
    fresh = [piece for row in fresh_in(bags, above) for piece in row]
    return len(set(fresh)) == len(fresh)


def is_narrow_tree(bags, above):
    """Whether any two values are bags of one to four pieces, and the bags above them, in a tree of bags."""
    return are_bags(bags, 1, MOST_IN_BAG) and tells_above(above, len(bags)) and hang_together(bags, above)


def from_top(above):
    """The indexes of bags from the top on, each behind that of the bag above it."""
    beneath = [[] for _ in above]
    waiting = []
    for at, over in enumerate(above):
        if over is None:
            waiting.append(at)
        else:
            beneath[over].append(at)
    order = []
    while waiting:
        at = waiting.pop()
        order.append(at)
        waiting.extend(beneath[at])
    return order


def fresh_in(bags, above):
    """For each bag the pieces in it that the bag above it does not have."""
    held = [{piece: True for piece in bag} for bag in bags]
    return [
        [piece for piece in bag if over is None or piece not in held[over]] for bag, over in zip(bags, above)
    ]


def pairs_in(bags, above):
    """A dict of the pairs of pieces that stand in one bag, the lesser one first, and of each piece with itself."""
    # Where the bag above has both pieces of a pair, it tells them: so one of them is fresh in the uppermost bag.
    fresh = fresh_in(bags, above)
    pairs = [(one, other) for bag, row in zip(bags, fresh) for one in row for other in bag]
    return {(min(one, other), max(one, other)): True for one, other in pairs}


def tied_behind(order, pairs):
    """For each piece of an order the pieces behind it that it is paired with, in their order."""
    ranks = {piece: at for at, piece in enumerate(order)}
    behind = [[] for _ in order]
    for one, other in pairs:
        if one != other:
            first, last = sorted([ranks[one], ranks[other]])
            behind[first].append(last)
    return [[order[at] for at in sorted(row)] for row in behind]


def are_two_by_two(rows, pairs):
    """Whether the pieces of each row that tied_behind gives are two by two paired."""
    # If all of a row are paired with its first piece, they stand in the row of that one, too. So nothing else
    # need be asked of them here.
    return all([tuple(sorted([row[0], other])) in pairs for row in rows for other in row[1:]])


def _is_bag(value, least, most):
    """Whether any value is an ascending lot of pieces, least to most of them."""
    if not is_row(value, 0, None) or not is_within(len(value), least, most):
        return False
    return all([one < other for one, other in zip(value, value[1:])])
