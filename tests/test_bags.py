"""Trees of bags, their texts, and the trees that are made of others."""

import itertools
import unittest

from tests.slow import bent, is_tree
from tests.tools import ANYTHING, LaneCase, as_lists
from threelanes.bags import BagTree, bags_with, path_tree, restricted, ties_in, tree_of
from threelanes.errors import BadText

TREE = BagTree([[0, 1, 2], [1, 2, 3], [2, 4]], [None, 0, 1])
GREAT = 10**139


def random_tree(rng, many, most=4):
    """The bags of a tree and those above them, made bag by bag, in any order."""
    bags = [sorted(rng.sample(range(most), rng.randrange(most + 1)))]
    above = [None]
    new = most
    while len(bags) < many:
        over = rng.randrange(len(bags))
        bag = [piece for piece in bags[over] if rng.random() < 0.7]
        while len(bag) < most and rng.random() < 0.5:
            bag.append(new)
            new += rng.randrange(1, 3)
        bags.append(sorted(bag))
        above.append(over)
    order = list(range(many))
    rng.shuffle(order)
    return [bags[at] for at in order], [None if above[at] is None else order.index(above[at]) for at in order]


def slow_ties(bags):
    """The tied pairs of pieces."""
    return tuple(sorted({pair for bag in bags for pair in itertools.combinations(sorted(bag), 2)}))


def wanted_item(text):
    """None for the text of a tree of bags, or else the index of the item that cannot stand."""
    items = text.split(" ")
    parts = [[]]
    for index, item in enumerate(items):
        own = parts[-1]
        if len(own) == 0:
            fits = item == "-" or is_numeral(item) and int(item) < 2000
        elif len(own) == 1:
            fits = item == ":"
        elif item == "/":
            fits = len(parts) < 2000
        else:
            fits = is_numeral(item) and (len(own) == 2 or int(own[-1]) < int(item))
        if not fits:
            return index
        if item == "/":
            parts.append([])
        else:
            own.append(item)
    if len(parts[-1]) < 2:
        return len(items)
    bags = [[int(item) for item in own[2:]] for own in parts]
    above = [None if own[0] == "-" else int(own[0]) for own in parts]
    return None if is_tree(bags, above, 0, 10**9) else len(items) - 1


def is_numeral(item):
    """Whether an item tells an integer from 0 on."""
    return item != "" and set(item) <= set("0123456789") and len(item) <= 140 and (item == "0" or item[0] != "0")


class Trees(LaneCase):
    def test_attributes(self):
        self.assertEqual((TREE.bags, TREE.above), (((0, 1, 2), (1, 2, 3), (2, 4)), (None, 0, 1)))
        self.assertEqual((TREE.pieces, TREE.width), ((0, 1, 2, 3, 4), 2))
        lone = BagTree(above=(None,), bags=[()])
        self.assertEqual((lone.bags, lone.above, lone.pieces, lone.width, str(lone)), (((),), (None,), (), 0, "- :"))
        self.assertEqual(BagTree([[5]], [None]).width, 0)
        self.assertEqual(BagTree([[], [5, 7]], [1, None]).width, 1)

    def test_trees_made_at_random(self):
        rng = self.seeded(121)
        for many in range(1, 25):
            bags, above = random_tree(rng, many, rng.randrange(1, 7))
            tree = BagTree(bags, tuple(above))
            self.assertEqual(as_lists(tree.bags), bags)
            self.assertEqual(tree.above, tuple(above))
            self.assertEqual(tree.pieces, tuple(sorted({piece for bag in bags for piece in bag})))
            self.assertEqual(tree.width, max(0, max(len(bag) for bag in bags) - 1))
            self.assertEqual(ties_in(tree), slow_ties(bags))
            for piece in tree.pieces:
                self.assertEqual(bags_with(tree, piece), tuple(at for at in range(many) if piece in bags[at]))
            self.assertEqual(BagTree.read(str(tree)), tree)

    def test_what_is_passed_is_copied(self):
        bags, above = [[0], [0, 1]], [None, 0]
        tree = BagTree(bags, above)
        bags[0].append(3)
        bags.append([1])
        above.append(0)
        self.assertEqual((tree.bags, tree.above), (((0,), (0, 1)), (None, 0)))

    def test_equality(self):
        self.assertTrue(TREE == BagTree(((0, 1, 2), [1, 2, 3], (2, 4)), (None, 0, 1)))
        self.assertFalse(TREE != BagTree(TREE.bags, TREE.above))
        for other in (
            BagTree([[0, 1, 2], [1, 2, 3], [2, 5]], [None, 0, 1]), BagTree([[0, 1, 2], [1, 2, 3], [2, 4]], [None, 0, 0]),
            BagTree([[0, 1, 2], [1, 2, 3], [2, 4]], [1, None, 1]), BagTree([[0, 1, 2], [1, 2, 3]], [None, 0]),
        ):
            self.assertFalse(TREE == other)
            self.assertTrue(TREE != other)
        for value in ANYTHING + [TREE.bags, str(TREE)]:
            self.assertIs(TREE == value, False)

    def test_bounds(self):
        for many in (1, 1999, 2000):
            bags = [[at] for at in range(many)]
            above = [None] + list(range(many - 1))
            tree = self.quick(BagTree, bags, above, seconds=1)
            self.assertEqual((len(tree.bags), len(tree.pieces)), (many, many))
            self.assertEqual(self.quick(BagTree, bags[::-1], [at + 1 for at in range(many - 1)] + [None]).width, 0)
        self.assertEqual(len(self.quick(BagTree, [[0, 1, 2, 3]] * 2000, [None] + [0] * 1999, seconds=1).bags), 2000)
        for many in (2001, 3000):
            self.raises("BadTree('bags')", BagTree, [[at] for at in range(many)], [None] + list(range(many - 1)))
            self.raises("BadTree('bags')", BagTree, [[at] for at in range(many)], None)
        self.raises("BadTree('bags')", BagTree, [], [])
        self.raises("BadTree('bags')", BagTree, (), None)

    def test_wrong_bags(self):
        for bag in (
            [1, 0], [0, 0], [-1], [0, 2, 1], [0, 1, 1], [True], [False, 1], [0.0], ["0"], [None], [[0]], "0", "", None,
            0, {0: 1}, {0}, b"0", 1.5, [0, 10**50, 5],
        ):
            self.raises("BadTree('bags')", BagTree, [bag], [None])
            self.raises("BadTree('bags')", BagTree, [[0], bag], [None, 0])
            self.raises("BadTree('bags')", BagTree, [[0], bag], [None, None])
        for value in ANYTHING:
            if value not in ([[]], [[1]]):
                self.raises("BadTree('bags')", BagTree, value, [None])
                self.raises("BadTree('bags')", BagTree, value, value)

    def test_wrong_above(self):
        bags = [[0], [1], [0]]
        for above in (
            [None, None, 0], [0, 0, 0], [1, 2, 0], [None, 2, 1], [None, 1, 0], [None, 0], [None, 0, 0, 0], [None, 0, 3],
            [None, 0, -1], [None, 0, True], [None, 0, False], [None, 0, 0.0], [None, 0, "0"], [None, 0, [0]], (), None, "012",
            {0: None, 1: 0, 2: 0}, [None, 0, 10**40], [False, 0, 0], ["", 0, 0], [(), 0, 0], [2, None, 0],
        ):
            self.raises("BadTree('above')", BagTree, bags, above)
        for value in ANYTHING:
            self.raises("BadTree('above')", BagTree, [[], [1]], value)
            if type(value) is not int:
                self.raises("BadTree('above')", BagTree, [[], [1]], [None, value])
                self.raises("BadTree('above')", BagTree, [[], [1], []], [value, 0, None])

    def test_pieces_that_do_not_hang_together(self):
        for bags, above in (
            ([[0], [1], [0]], [None, 0, 1]), ([[1], [0], [0]], [None, 0, 0]), ([[0], [], [0]], [None, 0, 1]),
            ([[0, 1], [1], [0, 1]], [None, 0, 1]), ([[0], [0], [], [0]], [1, 2, None, 2]),
            ([[10**200], [], [10**200]], [1, None, 1]),
        ):
            self.raises("BadTree('pieces')", BagTree, bags, above)
        self.assertEqual(BagTree([[0], [0], [0]], [None, 0, 0]).pieces, (0,))

    def test_trees_bent_at_one_place(self):
        rng = self.seeded(122)
        counts = {"bags": 0, "above": 0, "pieces": 0, None: 0}
        for many in (1, 2, 3, 5):
            tree = BagTree(*random_tree(rng, many, 3))
            told = [(bags, tree.above) for bags in bent(tree.bags)] + [(tree.bags, above) for above in bent(tree.above)]
            for bags, above in told:
                part = self.wrong_part(bags, above)
                counts[part] += 1
                if part is None:
                    self.assertEqual(as_lists(BagTree(bags, above).bags), as_lists(bags))
                else:
                    self.raises(f"BadTree('{part}')", BagTree, bags, above)
        self.assertGreater(min(counts.values()), 3)

    def wrong_part(self, bags, above):
        """The part that is refused; None for a tree of bags."""
        if not isinstance(bags, (list, tuple)) or not bags:
            return "bags"
        if not all(is_tree([bag], [None], 0, 9) for bag in bags):
            return "bags"
        if not is_tree([[] for _ in bags], above, 0, 9):
            return "above"
        return None if is_tree(bags, above, 0, 9) else "pieces"


class Texts(LaneCase):
    def asked(self, text):
        try:
            tree = BagTree.read(text)
        except BadText as error:
            self.assertEqual(error.line, 0)
            return error.item
        self.assertEqual(str(tree), text)
        return None

    def test_texts(self):
        for text in (
            "- :", "- : 0", "- : / 0 :", "1 : 5 / - : 5 7", "- : 0 1 2 / 0 : 1 2 3 / 1 : 2 4", f"- : {GREAT}",
            f"- : {GREAT} {GREAT + 1} / 0 : {10 * GREAT - 1}",
        ):
            self.assertEqual(str(BagTree.read(text)), text)
            self.assertIsNone(wanted_item(text))
        self.assertEqual(BagTree.read(text="- : 3 / 0 : 3"), BagTree([[3], [3]], [None, 0]))

    def test_great_pieces(self):
        for digits in (60, 61, 139, 140, 141, 5000):
            great = 10 ** (digits - 1)
            wanted = "1" + "0" * (digits - 1)
            text = str(BagTree([[7, great]], [None]))
            self.assertEqual(text, f"- : 7 {wanted}")
            self.assertEqual(self.asked(text), None if digits <= 140 else 3)
        self.assertEqual(str(BagTree([[12 * 10**4999 + 345]], [None])), "- : 12" + "0" * 4996 + "345")

    def test_texts_bent_at_one_item(self):
        rng = self.seeded(123)
        words = ["", "-", ":", "/", "0", "1", "2", "3", "00", "01", "-1", "+1", "1999", "2000", "x", "1.", "1" * 140,
                 "1" * 141, "None", "--", "\n", "0\n", "-0"]
        texts = ["- : 0 1 2 / 0 : 1 2 3 / 1 : 2 4", "- :", "- : / 0 : / 1 :", "1 : 0 / - : 0 3"]
        texts += [str(BagTree(*random_tree(rng, many, 3))) for many in (2, 4, 6)]
        kinds = set()
        for text in texts:
            items = text.split(" ")
            for at in range(len(items) + 1):
                rows = [items[:at], items[:at] + items[at + 1:]]
                for word in words:
                    rows += [items[:at] + [word] + items[at + 1:], items[:at] + [word] + items[at:]]
                for row in rows:
                    told = " ".join(row)
                    self.assertEqual(self.asked(told), wanted_item(told), told)
                    kinds.add(wanted_item(told))
        self.assertTrue({None, 0, 1, 2, 3, 4} <= kinds)

    def test_what_only_the_whole_shows(self):
        for text, item in (
            ("- : 0 / - : 1", 6), ("0 : 1 2", 3), ("1 : / 0 :", 4), ("- : / 2 : 5", 5), ("- : / 1999 :", 4),
            ("- : 0 / 0 : 1 / 1 : 0", 10), ("- : 1 / - :", 5), ("0 :", 1), ("- : 0 / 0 : / 1 : 0 1 2", 11),
        ):
            self.assertEqual(self.asked(text), item)
        for text, item in (("- : 0 2 1", 4), ("- : 0 0", 3), ("2000 :", 0), ("- : / 2000 :", 3), ("- : /", 3), ("-", 1),
                           ("", 0), ("- ", 1), ("- : ", 2), ("- : 0 /", 4), ("- : 0 / 0", 5), ("- 0", 1), (": 0", 0)):
            self.assertEqual(self.asked(text), item)

    def test_as_many_bags_as_may_stand(self):
        text = " / ".join(["- :"] + ["0 :"] * 1999)
        self.assertEqual(len(self.quick(BagTree.read, text, seconds=2).bags), 2000)
        self.assertEqual(self.asked(text + " / 0 :"), len(text.split(" ")))
        self.assertEqual(self.asked(text + " /"), len(text.split(" ")))
        self.assertIsNone(self.asked(text + " 7"))

    def test_what_is_no_string(self):
        for value in ANYTHING:
            if not isinstance(value, str):
                self.raises("BadText(0, 0)", BagTree.read, value)
            else:
                self.assertEqual(self.asked(value), wanted_item(value))
        self.raises("BadText(0, 0)", BagTree.read, b"- :")


class Made(LaneCase):
    def test_ties_and_bags(self):
        self.assertEqual(ties_in(tree=TREE), ((0, 1), (0, 2), (1, 2), (1, 3), (2, 3), (2, 4)))
        self.assertEqual(ties_in(BagTree([[], [3]], [None, 0])), ())
        self.assertEqual(bags_with(piece=2, tree=TREE), (0, 1, 2))
        for value in ANYTHING:
            self.raises("BadTree('tree')", ties_in, value)
            self.raises("BadTree('tree')", bags_with, value, value)
            self.raises("BadTree('tree')", restricted, value, value)
            if type(value) is not int:
                self.raises("BadNumber('piece')", bags_with, TREE, value)
        for value in (5, -1, 10**30, True, 1.0, "1", [1], None):
            self.raises("BadNumber('piece')", bags_with, TREE, value)

    def test_restricted(self):
        rng = self.seeded(124)
        for many in range(1, 15):
            tree = BagTree(*random_tree(rng, many))
            for _ in range(6):
                pieces = rng.sample(range(40), rng.randrange(20))
                got = restricted(tree, pieces)
                wanted = [tuple(piece for piece in bag if piece in pieces) for bag in tree.bags]
                self.assertEqual((got.bags, got.above), (tuple(wanted), tree.above))
                self.assertEqual(restricted(tree, tuple(pieces[::-1])), got)
            self.assertEqual(restricted(tree, tree.pieces[::-1]), tree)
            self.assertEqual(restricted(tree, []).pieces, ())
            self.assertEqual(restricted(tree, [10**60]).width, 0)
        self.assertEqual(restricted(pieces=[4, 2], tree=TREE).bags, ((2,), (2,), (2, 4)))
        for value in ([1, 1], [-1], [True], [0, False], [1.0], "12", [None], [[1]], None, 3, {1: 1}, {1}, (0, 1, 0)):
            self.raises("BadLot('pieces')", restricted, TREE, value)

    def test_path_trees(self):
        for many in (1, 2, 3, 10, 1000):
            tree = path_tree(many)
            wanted = [(at, at + 1) for at in range(many - 1)] or [(0,)]
            self.assertEqual(tree.bags, tuple(wanted))
            self.assertEqual(tree.above, (None, *range(len(wanted) - 1)))
            self.assertEqual(tree.width, int(many > 1))
        self.assertEqual(path_tree(many=2).bags, ((0, 1),))
        for value in ANYTHING:
            if type(value) is not int:
                self.raises("BadNumber('many')", path_tree, value)
        for value in (0, 1001, -1):
            self.raises("BadNumber('many')", path_tree, value)


class Orders(LaneCase):
    def wanted(self, order, ties):
        """The bags and those above them, None if some ties are not as they must be."""
        tied = {frozenset(pair) for pair in ties}
        bags, above = [], []
        for at, piece in enumerate(order):
            behind = [other for other in order[at + 1:] if frozenset((piece, other)) in tied]
            if any(frozenset(pair) not in tied for pair in itertools.combinations(behind, 2)):
                return None
            bags.append(tuple(sorted([piece, *behind])))
            above.append(order.index(behind[0]) if behind else at + 1)
        return tuple(bags), (*above[:-1], None)

    def test_all_ties_of_few_pieces(self):
        kinds = [0, 0]
        for order in ([0], [1, 0], [5, 0, 3], [0, 1, 2, 3], [10**50, 2, 7, 1]):
            pairs = list(itertools.combinations(order, 2))
            for size in range(len(pairs) + 1):
                for ties in itertools.combinations(pairs, size):
                    wanted = self.wanted(order, ties)
                    kinds[wanted is None] += 1
                    for told in (ties, [pair[::-1] for pair in ties], list(ties + ties[::-1]), [list(pair) for pair in ties]):
                        self.asked(order, told, wanted)
        self.assertGreater(min(kinds), 10)

    def asked(self, order, ties, wanted):
        if wanted is None:
            self.raises("Misfit('ties')", tree_of, order, ties)
            self.raises("Misfit('ties')", tree_of, tuple(order), tuple(ties))
        else:
            tree = tree_of(order, ties)
            self.assertEqual((tree.bags, tree.above), wanted)
            self.assertEqual(set(map(frozenset, ties_in(tree))), set(map(frozenset, ties)))
            self.assertEqual(tree_of(ties=tuple(ties), order=tuple(order)), tree)

    def test_greater_orders(self):
        rng = self.seeded(125)
        kinds = [0, 0]
        for many in range(5, 30):
            # Each piece, from the last one on, is tied to some of a bag behind it: so these are two by two tied.
            order = rng.sample(range(100), many)
            bags = {order[-1]: [order[-1]]}
            ties = []
            for piece in order[-2::-1]:
                behind = [other for other in rng.choice(list(bags.values())) if rng.random() < 0.8]
                ties += [rng.choice([(piece, other), (other, piece)]) for other in behind]
                bags[piece] = [piece, *behind]
            rng.shuffle(ties)
            self.asked(order, ties, self.wanted(order, ties))
            for at in range(len(ties)):
                left = ties[:at] + ties[at + 1:]
                wanted = self.wanted(order, left)
                kinds[wanted is None] += 1
                self.asked(order, left, wanted)
        self.assertGreater(min(kinds), 10)

    def test_what_tree_of_refuses(self):
        for order in ([], (), [0, 0], [-1], [True], [0.0], ["0"], [None], [[0]], "01", None, 5, {0: 1}, list(range(1001))):
            self.raises("BadLot('order')", tree_of, order, [])
            self.raises("BadLot('order')", tree_of, order, None)
        for pair in (
            (0, 0), (0, 3), (3, 0), (0,), (0, 1, 2), (), 0, None, "01", (True, 0), (0, False), (0.0, 1), ("0", 1), ([0], 1),
            {0: 1, 1: 1}, (-1, 0), (0, 10**40),
        ):
            self.raises("BadLot('ties')", tree_of, [0, 1, 2], [pair])
            self.raises("BadLot('ties')", tree_of, [0, 1, 2], [(0, 1), (0, 2), pair])
        for value in ANYTHING:
            if value not in ([], ()):
                self.raises("BadLot('ties')", tree_of, [0, 1, 2], value)
            self.raises("BadLot('ties')", tree_of, [0, 1, 2], [(0, 1), value])
            if value not in ([1], [[]], [[1]]):
                self.raises("BadLot('order')", tree_of, value, value)

    def test_bounds(self):
        many = 1000
        tree = self.quick(tree_of, list(range(many)), [(at, at + 1) for at in range(many - 1)], seconds=2)
        self.assertEqual(tree.above, (*range(1, many), None))
        self.assertEqual(self.quick(tree_of, list(range(many)), [], seconds=2).width, 0)
        star = self.quick(tree_of, list(range(many)), [(999, at) for at in range(999)], seconds=2)
        self.assertEqual(star.above, (999,) * 999 + (None,))
        self.raises("Misfit('ties')", tree_of, list(range(many)), [(0, at) for at in range(1, many)])
        row = [(one, other) for one in range(200) for other in range(one)]
        self.assertEqual(self.quick(tree_of, list(range(200)), row, seconds=4).width, 199)


if __name__ == "__main__":
    unittest.main()
