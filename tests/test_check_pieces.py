"""Which papers about pieces are right."""

import unittest

from tests.drawn import FOUR, HANDLE, LONE, NEST, TAIL, THREE, nested, slow_faces, triangulated
from tests.slow import bent, is_parted, slow_layers, told_anyhow
from tests.tools import ANYTHING, LaneCase, as_lists
from threelanes.check_pieces import shows_parted
from threelanes.faces import faces_of
from threelanes.papers import Denial, Paper
from threelanes.pieces import Cut, Parted, parted
from threelanes.webs import Web

BAGS = ((0, 1, 2, 3), (0, 2, 3), (0, 1, 3))


class Shown(LaneCase):
    def test_what_parted_returns(self):
        rng = self.seeded(111)
        for many in range(3, 31, 3):
            web = Web(triangulated(rng, many, many))
            for face in slow_faces(web.turns):
                told = parted(web, face)
                for outer in told_anyhow(face):
                    self.assertIs(shows_parted(web, outer, told), True)
                self.assertIs(shows_parted(web, face, Parted(*as_lists(told.parts))), True)

    def test_papers_bent_at_one_place(self):
        rng = self.seeded(112)
        webs = [THREE, FOUR, NEST, Web(triangulated(rng, 6, 6)), Web(triangulated(rng, 9, 9)), Web(nested(7))]
        counts = {True: 0, False: 0}
        for web in webs:
            outer = faces_of(web)[rng.randrange(3) % 2]
            right = parted(web, outer).parts
            for at in range(3):
                for part in bent(right[at]):
                    parts = right[:at] + (part,) + right[at + 1:]
                    wanted = is_parted(web, outer, *parts)
                    self.assertIs(shows_parted(web, outer, Parted(*parts)), wanted, parts)
                    counts[wanted] += 1
        self.assertGreater(min(counts.values()), 50)

    def test_other_right_papers(self):
        outer = (1, 2, 3)
        many = 40
        doubled = [(0, 1, 2, 3)] * many
        for value in (
            Parted((0, 1, 2, 3), doubled, [None] + list(range(many - 1))),
            Parted((0, 1, 2, 3), doubled, list(range(1, many)) + [None]),
            Parted((3, 2, 1, 0), [[0, 1, 2, 3]], [None]),
            Parted((0, 0, 1, 1), [[0, 1], [0], [1]], [None, 0, 0]),
            Parted((0, 0, 0, 1), [[0], [0, 1]], [1, None]),
            Parted([0, 1, 2, 3], list(BAGS), [None, 0, 0]),
        ):
            self.assertIs(shows_parted(Web([[2, 4, 3], [3, 4, 1], [1, 4, 2], [1, 2, 3]]), outer, value), True)

    def test_papers_that_are_wrong(self):
        four = Web([[2, 4, 3], [3, 4, 1], [1, 4, 2], [1, 2, 3]])
        for value in (
            Parted((0, 1, 2, 3), BAGS, (None, 0, None)),
            Parted((0, 1, 2, 3), BAGS, (1, 0, 0)),
            Parted((0, 1, 2, 3), BAGS, (1, 2, 0)),
            Parted((0, 1, 2, 3), BAGS, (None, 1, 0)),
            Parted((0, 1, 2, 3), BAGS, (None, 0, 3)),
            Parted((0, 1, 2, 3), BAGS, (None, 0, -1)),
            Parted((0, 1, 2, 3), BAGS, (None, 0)),
            Parted((0, 1, 2, 3), BAGS, (None, 0, 0, 0)),
            Parted((0, 1, 2, 3), BAGS, (None, 0, False)),
            Parted((0, 1, 2, 3), (), ()),
            Parted((0, 1, 2, 3), ((0, 1, 3, 2),), (None,)),
            Parted((0, 1, 2, 3), ((0, 1, 2, 2, 3),), (None,)),
            Parted((0, 1, 2, 3), BAGS + ((),), (None, 0, 0, 0)),
            Parted((0, 1, 2, 3), BAGS + ((4,),), (None, 0, 0, 0)),
            Parted((0, 1, 2, 4), ((0, 1, 2, 4),), (None,)),
            Parted((0, 1, 2), BAGS, (None, 0, 0)),
            Parted((0, 1, 2, 3, 3), BAGS, (None, 0, 0)),
            Parted((False, 1, 2, 3), BAGS, (None, 0, 0)),
            Parted((0, 1, 2, 3), ((False, 1, 2, 3),), (None,)),
            Parted((-1, 0, 1, 2), ((-1, 0, 1, 2),), (None,)),
            Parted((1, 1, 1, 1), ((1,),), (None,)),
            Parted((0, 0, 0, 0), ((0,), (0,), (0,)), (None, 0, None)),
            Cut((0, 1, 2, 3), BAGS, (None, 0, 0)),
            Paper("parted", (0, 1, 2, 3), BAGS, (None, 0, 0)),
            Denial("parted", (0, 1, 2, 3), BAGS, (None, 0, 0)),
            ((0, 1, 2, 3), BAGS, (None, 0, 0)),
        ):
            self.assertIs(shows_parted(four, (1, 2, 3), value), False)

    def test_all_in_one_piece(self):
        kinds = set()
        rng = self.seeded(113)
        for web in [THREE, FOUR, NEST, Web(nested(9, 0))] + [Web(triangulated(rng, many)) for many in (4, 5, 6, 7)]:
            for face in slow_faces(web.turns):
                layers = slow_layers(web, face)
                wanted = all(layers.count(layer) <= 3 for layer in layers)
                self.assertIs(shows_parted(web, face, Parted([0] * web.many, [[0]], [None])), wanted)
                kinds.add(wanted)
        self.assertEqual(kinds, {True, False})

    def test_more_than_four_pieces_in_a_bag(self):
        pieces = list(range(7))
        self.assertIs(shows_parted(NEST, (1, 3, 2), Parted(pieces, [pieces], [None])), False)

    def test_any_values(self):
        right = parted(NEST, (1, 3, 2))
        for value in ANYTHING:
            self.assertIs(shows_parted(NEST, (1, 3, 2), value), False)
            for at in range(3):
                parts = right.parts[:at] + (value,) + right.parts[at + 1:]
                self.assertIs(shows_parted(NEST, (1, 3, 2), Parted(*parts)), False)
        self.assertIs(shows_parted(value=right, outer=[1, 3, 2], web=NEST), True)

    def test_what_it_refuses(self):
        for value in ANYTHING:
            self.raises("BadWeb('web')", shows_parted, value, value, value)
            self.raises("BadFace('outer')", shows_parted, NEST, value, value)
            self.raises("Misfit('web')", shows_parted, TAIL, (1, 2, 3), value)
        right = Parted([0, 1, 2, 3], [[0, 1, 2, 3]], [None])
        self.raises("BadFace('outer')", shows_parted, NEST, (1, 2, 3), right)
        self.raises("Misfit('web')", shows_parted, LONE, (1, 3, 2), right)
        self.raises("Misfit('web')", shows_parted, HANDLE, slow_faces(HANDLE.turns)[0], right)

    def test_great_webs(self):
        rng = self.seeded(114)
        for turns in (triangulated(rng, 200, 200), nested(200), nested(200, 0)):
            web = Web(turns)
            outer = faces_of(web)[5]
            told = parted(web, outer)
            self.assertIs(self.quick(shows_parted, web, outer, told, seconds=2), True)
            many = 20000
            deep = Parted(told.pieces, told.bags + told.bags[-1:] * many,
                          told.above + tuple(range(len(told.bags) - 1, len(told.bags) + many - 1)))
            self.assertIs(self.quick(shows_parted, web, outer, deep, seconds=4), True)


if __name__ == "__main__":
    unittest.main()
