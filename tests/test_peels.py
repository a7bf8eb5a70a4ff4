"""Orders that peel trees of bags, and middle bags."""

import itertools
import unittest

from tests.slow import bent
from tests.test_bags import random_tree, slow_ties
from tests.tools import ANYTHING, LaneCase
from threelanes.bags import BagTree, path_tree, ties_in, tree_of
from threelanes.papers import Denial, Paper
from threelanes.peels import Middle, Peeled, middle_bag, peeled, shows_middle, shows_peeled

TREE = BagTree([[0, 1, 2], [1, 2, 3], [2, 4]], [None, 0, 1])


def peels(tree, order):
    """Whether an order peels a tree of bags, told piece by piece."""
    if not all(type(piece) is int for piece in order) or sorted(order) != list(tree.pieces):
        return False
    ties = slow_ties(tree.bags)
    for at, piece in enumerate(order):
        behind = [other for other in order[at + 1:] if tuple(sorted((piece, other))) in ties]
        if len(behind) > tree.width or any(tuple(sorted(pair)) not in ties for pair in itertools.combinations(behind, 2)):
            return False
    return True


def is_middle(tree, weights, at):
    """Whether a bag is a middle one, told by all joined lots."""
    ties = slow_ties(tree.bags)
    left = [piece for piece in tree.pieces if piece not in tree.bags[at]]
    while left:
        lot = [left[0]]
        for piece in lot:
            lot += [other for other in left if other not in lot and tuple(sorted((piece, other))) in ties]
        if 2 * sum(weights[tree.pieces.index(piece)] for piece in lot) > sum(weights):
            return False
        left = [piece for piece in left if piece not in lot]
    return True


def trees(case, seed, sizes):
    """Trees of bags made at random."""
    rng = case.seeded(seed)
    for many in sizes:
        for most in (1, 2, 3, 4, 6):
            yield rng, BagTree(*random_tree(rng, many, most))


class Papers(LaneCase):
    def test_papers(self):
        told, middle = Peeled([2, [1]]), Middle([0])
        self.assertEqual((told.word, told.order, told.parts), ("peeled", (2, (1,)), ((2, (1,)),)))
        self.assertEqual((middle.word, middle.at, middle.parts), ("middle", (0,), ((0,),)))
        self.assertEqual((Peeled.__bases__, Middle.__bases__), ((Paper,), (Paper,)))
        self.assertEqual((bool(told), bool(middle), bool(Middle(0))), (True, True, True))
        self.assertEqual((Peeled(order=1), Middle(at=2)), (Peeled(1), Middle(2)))


class Orders(LaneCase):
    def test_orders_that_are_found(self):
        for rng, tree in trees(self, 151, range(1, 14)):
            told = peeled(tree)
            self.assertIs(type(told), Peeled)
            self.assertIs(peels(tree, told.order), True)
            self.assertIs(shows_peeled(tree, told), True)
            self.assertIs(shows_peeled(tree, Peeled(list(told.order))), True)
            self.assertEqual(peeled(tree=BagTree(tree.bags, tree.above)), told)

    def test_all_orders_of_few_pieces(self):
        counts = {True: 0, False: 0}
        for tree in (TREE, path_tree(5), BagTree([[3, 9], [9, 10**20], []], [1, None, 1]), BagTree([[]], [None]),
                     BagTree([[0, 1, 2, 3]], [None]), tree_of([0, 1, 2, 3, 4], [(at, 4) for at in range(4)])):
            for order in itertools.permutations(tree.pieces):
                wanted = peels(tree, order)
                counts[wanted] += 1
                self.assertIs(shows_peeled(tree, Peeled(order)), wanted)
        self.assertGreater(min(counts.values()), 50)

    def test_orders_told_anyhow(self):
        counts = {True: 0, False: 0}
        for rng, tree in trees(self, 152, (2, 3, 5, 8)):
            right = peeled(tree).order
            for at in range(12):
                order = list(right)
                if at > 5:
                    rng.shuffle(order)
                elif at < len(order) - 1:
                    order[at], order[at + 1] = order[at + 1], order[at]
                wanted = peels(tree, order)
                counts[wanted] += 1
                self.assertIs(shows_peeled(tree, Peeled(order)), wanted)
            for order in bent(right):
                wanted = isinstance(order, (list, tuple)) and peels(tree, order)
                self.assertIs(shows_peeled(tree, Peeled(order)), wanted, order)
        self.assertGreater(min(counts.values()), 20)

    def test_orders_that_are_none(self):
        for order in (
            [4, 3, 0, 1], [4, 3, 0, 1, 2, 2], [4, 3, 0, 1, 1], [4, 3, 0, 1, 5], [4, 3, 0, True, 2], [4, 3, False, 1, 2],
            [4, 3, 0, 1, 2.0], [4, 3, 0, 1, "2"], [4, 3, 0, 1, None], [4, 3, 0, 1, [2]], [4, 3, 0, 1, 2, 5], [],
        ):
            self.assertIs(shows_peeled(TREE, Peeled(order)), False)
        right = Peeled([4, 3, 0, 1, 2])
        for value in ANYTHING + [Paper("peeled", right.order), Denial("peeled", right.order), right.order, Middle(right.order)]:
            self.assertIs(shows_peeled(TREE, value), False)
        for value in ANYTHING:
            self.assertIs(shows_peeled(TREE, Peeled(value)), False)
            self.raises("BadTree('tree')", shows_peeled, value, value)
            self.raises("BadTree('tree')", peeled, value)
        self.assertIs(shows_peeled(value=right, tree=TREE), True)
        self.assertIs(shows_peeled(BagTree([[]], [None]), Peeled([])), True)

    def test_bounds(self):
        line = path_tree(1000)
        told = self.quick(peeled, line, seconds=2)
        self.assertIs(self.quick(shows_peeled, line, told, seconds=2), True)
        self.assertIs(self.quick(shows_peeled, line, Peeled(list(range(1000))), seconds=2), True)
        self.assertIs(self.quick(shows_peeled, line, Peeled([*range(1, 1000), 0]), seconds=2), False)
        deep = BagTree([[at, at + 1, at + 2, at + 3] for at in range(2000)], [None] + list(range(1999)))
        self.assertIs(self.quick(shows_peeled, deep, self.quick(peeled, deep, seconds=2), seconds=2), True)


class Great(LaneCase):
    def test_great_bags(self):
        many = 700
        order = list(range(many))
        ties = [(one, other) for one in order for other in range(one)]
        tree = self.quick(tree_of, order, ties, seconds=4)
        self.assertEqual(len(self.quick(ties_in, tree, seconds=4)), many * (many - 1) // 2)
        self.assertIs(self.quick(shows_peeled, tree, Peeled(order[::-1]), seconds=4), True)
        told = self.quick(middle_bag, tree, [1] * many, seconds=2)
        self.assertIs(self.quick(shows_middle, tree, [1] * many, told, seconds=2), True)
        self.assertIs(self.quick(shows_middle, tree, [1] * many, Middle(many - 1), seconds=2), False)


class Middles(LaneCase):
    def test_middle_bags(self):
        counts = {True: 0, False: 0}
        for rng, tree in trees(self, 153, (1, 2, 3, 4, 6, 9, 12)):
            many = len(tree.pieces)
            great = [0] * many
            if many:
                great[rng.randrange(many)] = 10**30
            for weights in ([0] * many, [1] * many, great, [rng.randrange(5) for _ in great], tuple(range(many))):
                told = middle_bag(tree, weights)
                self.assertIs(type(told), Middle)
                self.assertIs(shows_middle(tree, weights, told), True)
                self.assertEqual(middle_bag(weights=list(weights), tree=tree), told)
                self.assertIs(is_middle(tree, weights, told.at), True)
                for at in range(len(tree.bags)):
                    wanted = is_middle(tree, weights, at)
                    counts[wanted] += 1
                    self.assertIs(shows_middle(tree, tuple(weights), Middle(at)), wanted)
        self.assertGreater(min(counts.values()), 100)

    def test_just_a_half_is_not_too_much(self):
        tree = path_tree(3)
        self.assertIs(shows_middle(tree, [1, 0, 1], Middle(0)), True)
        self.assertIs(shows_middle(tree, [1, 0, 2], Middle(0)), False)
        self.assertIs(shows_middle(tree, [10**40, 1, 10**40], Middle(0)), True)
        self.assertIs(shows_middle(tree, [10**40, 1, 10**40 + 2], Middle(0)), False)
        self.assertEqual(middle_bag(tree, [10**40, 1, 10**40 + 2]).at, 1)

    def test_what_is_no_index(self):
        weights = [1, 1, 1, 1, 1]
        for at in (3, -1, 10**30, True, False, 0.0, "0", None, [0], (0,), {}):
            self.assertIs(shows_middle(TREE, weights, Middle(at)), False)
        for value in ANYTHING + [Paper("middle", 0), Denial("middle", 0), 0, (0,), Peeled(0)]:
            self.assertIs(shows_middle(TREE, weights, value), False)
        self.assertIs(shows_middle(value=Middle(0), weights=weights, tree=TREE), True)

    def test_what_they_refuse(self):
        wrong = [
            [1] * 4, [1] * 6, [1, 1, 1, 1, -1], [1, 1, 1, 1, True], [1, 1, 1, 1, 1.0], [1, 1, 1, 1, "1"], "11111",
            [1, 1, 1, 1, None], [1, 1, 1, 1, [1]], {0: 1, 1: 1, 2: 1, 3: 1, 4: 1}, None, 5, [[1, 1, 1, 1, 1]], b"11111",
        ]
        for weights in wrong + ANYTHING:
            self.raises("BadNumber('weights')", middle_bag, TREE, weights)
            self.raises("BadNumber('weights')", shows_middle, TREE, weights, Middle(0))
            self.raises("BadNumber('weights')", shows_middle, TREE, weights, None)
        for value in ANYTHING:
            self.raises("BadTree('tree')", middle_bag, value, value)
            self.raises("BadTree('tree')", shows_middle, value, value, value)
        self.assertEqual(middle_bag(BagTree([[]], [None]), []), Middle(0))
        self.raises("BadNumber('weights')", middle_bag, BagTree([[]], [None]), [0])

    def test_bounds(self):
        for many in (120, 1000):
            line = path_tree(many)
            for weights in ([1] * many, list(range(many)), [0] * (many - 1) + [1]):
                told = self.quick(middle_bag, line, weights, seconds=2)
                self.assertIs(self.quick(shows_middle, line, weights, told, seconds=2), True)
                self.assertIs(is_middle(line, weights, told.at) if many < 200 else True, True)
        deep = BagTree([[at, at + 1, at + 2, at + 3] for at in range(2000)], [None] + list(range(1999)))
        weights = [1] * len(deep.pieces)
        told = self.quick(middle_bag, deep, weights, seconds=2)
        self.assertIs(self.quick(shows_middle, deep, weights, told, seconds=2), True)
        self.assertIs(self.quick(shows_middle, deep, weights, Middle(0), seconds=2), False)


if __name__ == "__main__":
    unittest.main()
