"""Sound colours of trees of bags and of flat webs."""

import itertools
import unittest

from tests.drawn import HANDLE, KNOT, LONE, SPLIT, all_tied, grown, nested, paths, triangulated
from tests.slow_walks import are_sound, near_beside, near_in
from tests.test_bags import random_tree
from tests.tools import ANYTHING, LaneCase, as_lists
from threelanes.bags import BagTree, path_tree, tree_of
from threelanes.check_colourings import Sound, judged_walks
from threelanes.colourings import map_colours, tree_colours
from threelanes.lines import line_colours
from threelanes.makes import floor, ring, wheel
from threelanes.seats import seated
from threelanes.webs import Web, mirrored

GREAT = 10**50


def grown_tree(rng, many, width):
    """A tree of bags in which each new piece is tied to some that stand in one bag, as wide as it may be."""
    bags = [list(range(min(many, width + 1)))]
    above = [None]
    for new in range(width + 1, many):
        over = rng.randrange(len(bags))
        bags.append(sorted(rng.sample(bags[over], min(width, len(bags[over]))) + [new]))
        above.append(over)
    return BagTree(bags, above)


class TreeCase(LaneCase):
    def check(self, tree):
        told = self.quick(tree_colours, tree, seconds=2)
        self.assertIs(type(told), tuple)
        self.assertEqual(len(told), len(tree.pieces))
        self.assertTrue(all(type(colour) is int and 0 <= colour < 4**tree.width for colour in told))
        colours = dict(zip(tree.pieces, told))
        self.assertIs(are_sound(near_beside(tree.pieces, tree.bags), colours), True)
        self.assertEqual(tree_colours(BagTree(as_lists(tree.bags), list(tree.above))), told)


class Trees(TreeCase):
    def test_no_width(self):
        for bags, above in (([[]], [None]), ([[0]], [None]), ([[], []], [1, None]), ([[3], [], [5], [3]], [None, 0, 0, 0])):
            tree = BagTree(bags, above)
            self.check(tree)
            self.assertEqual(tree_colours(tree), (0,) * len(tree.pieces))
        self.assertEqual(tree_colours(tree=BagTree([[]], [None])), ())

    def test_lines(self):
        for many in (1, 2, 3, 4, 5, 30, 110):
            self.check(path_tree(many))

    def test_each_width(self):
        rng = self.seeded(181)
        for width in (0, 1, 2, 3, 4):
            for many in (1, 2, 3, 5, 9, 20, 40, 110):
                self.check(grown_tree(rng, many, width))

    def test_trees_made_at_random(self):
        rng = self.seeded(182)
        for many in (*range(1, 12), 30):
            for most in (1, 2, 3, 4, 5):
                for _ in range(3):
                    self.check(BagTree(*random_tree(rng, many, most)))

    def test_stars_and_deep_ones(self):
        for many in (2, 3, 12, 40):
            self.check(tree_of(list(range(1, many)) + [0], [(0, other) for other in range(1, many)]))
            self.check(BagTree([[0, 1, at, at + 1] for at in range(2, many + 2)], [None] + list(range(many - 1))))
            self.check(BagTree([[at, at + 1, at + 2, at + 3] for at in range(many)], [None] + list(range(many - 1))))

    def test_parts_and_empty_bags(self):
        rng = self.seeded(183)
        bags, above = [[]], [None]
        for part in range(4):
            own = grown_tree(rng, 12, part + 1)
            first = len(bags)
            bags += [[GREAT * part + piece for piece in bag] for bag in own.bags] + [[]]
            above += [0 if over is None else first + over for over in own.above] + [rng.randrange(first)]
        tree = BagTree(bags, above)
        self.check(tree)
        self.assertEqual((tree.width, len(tree.pieces), tree.pieces[-1]), (4, 48, 3 * GREAT + 11))

    def test_whole_bags(self):
        for many in (2, 3, 4, 5, 9):
            tree = BagTree([list(range(many))], [None])
            self.check(tree)
            self.assertEqual(len(set(tree_colours(tree))), many)
        wide = BagTree([list(range(200))], [None])
        self.assertEqual(len(set(self.quick(tree_colours, wide, seconds=2))), 200)

    def test_the_greatest_trees(self):
        rng = self.seeded(184)
        line = BagTree([[at, at + 1] for at in range(2000)], [None] + list(range(1999)))
        told = self.quick(tree_colours, line, seconds=2)
        self.assertTrue(all(0 <= colour < 4 for colour in told))
        self.assertTrue(all(len(set(told[at: at + 3])) == 3 for at in range(1999)))
        other = BagTree([[at, at + 1] for at in range(2000)], list(range(1, 2000)) + [None])
        self.assertTrue(all(0 <= colour < 4 for colour in self.quick(tree_colours, other, seconds=2)))
        wide = grown_tree(rng, 2003, 4)
        told = dict(zip(wide.pieces, self.quick(tree_colours, wide, seconds=3)))
        self.assertTrue(all(0 <= colour < 256 for colour in told.values()))
        self.assertTrue(all(told[one] != told[two] for bag in wide.bags for one, two in itertools.combinations(bag, 2)))

    def test_what_is_no_tree(self):
        for value in ANYTHING + [Web([[]]), ([[0]], [None])]:
            self.raises("BadTree('tree')", tree_colours, value)


class Maps(LaneCase):
    def check(self, web):
        told = self.quick(map_colours, web, seconds=3)
        seats = seated(web)
        tree = BagTree(seats.bags, seats.above)
        shades = dict(zip(tree.pieces, tree_colours(tree)))
        signs = line_colours(1 + max(layer for _, layer, _ in seats.seats))
        wanted = tuple(12 * shades[piece] + 3 * signs[layer] + lane for piece, layer, lane in seats.seats)
        self.assertEqual(told, wanted)
        self.assertTrue(all(type(colour) is int and 0 <= colour < 768 for colour in told))
        self.assertIs(are_sound(near_in(web.turns), dict(enumerate(told, start=1))), True)
        self.assertEqual(map_colours(Web(as_lists(web.turns))), told)
        if web.many <= 40:
            self.assertEqual(judged_walks(web, told), Sound())

    def test_few_places(self):
        for turns in ([[]], [[2], [1]], [[2, 3], [3, 1], [1, 2]], [[2], [1, 3], [2]], [[2, 3], [1], [1]]):
            self.check(Web(turns))
        self.assertEqual(map_colours(web=Web([[]])), map_colours(Web([[]])))

    def test_webs_that_are_made(self):
        for many in (3, 4, 7, 20):
            for web in (Web(paths(many)), ring(many), wheel(many), floor(many, 2), floor(2, many)):
                self.check(web)
        for web in (floor(5, 5), floor(6, 10), floor(12, 5), ring(60), wheel(59), Web(paths(60)), floor(60, 1)):
            self.check(web)

    def test_webs_made_at_random(self):
        rng = self.seeded(185)
        for many in (4, 6, 9, 15, 25, 40, 60):
            for web in (Web(grown(rng, many, many // 2)[0]), Web(triangulated(rng, many, 2 * many)), Web(nested(many))):
                self.check(web)
                self.check(mirrored(web))

    def test_webs_of_150_places(self):
        for web in (Web(triangulated(self.seeded(186), 150, 200)), Web(nested(150, 0)), floor(15, 10), Web(paths(150)), ring(150)):
            self.check(web)

    def test_what_is_refused(self):
        for value in ANYTHING:
            self.raises("BadWeb('web')", map_colours, value)
        for web in (Web([[], []]), SPLIT, KNOT, LONE, HANDLE, Web(all_tied(5)), Web([[]] * 151)):
            self.raises("Misfit('web')", map_colours, web)
        for many in (151, 1000):
            self.raises("TooMany('places', 150)", map_colours, Web(paths(many)))


if __name__ == "__main__":
    unittest.main()
