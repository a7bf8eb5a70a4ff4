"""Which papers about walks are right."""

import unittest

from tests.drawn import FOUR, NEST, TAIL, THREE, triangulated
from tests.slow import bent, slow_walk, told_anyhow
from tests.tools import ANYTHING, LaneCase, as_lists
from threelanes.check_doors import shows_walk
from threelanes.doors import Met, Round, door_walk
from threelanes.faces import Apart, faces_of
from threelanes.papers import Denial, Paper
from threelanes.webs import Web

COLOURS = (1, 2, 3, 1, 2, 1, 1)


class Walks(LaneCase):
    def told(self):
        rng = self.seeded(81)
        for web in [THREE, FOUR, NEST] + [Web(triangulated(rng, many, 12)) for many in (5, 6, 8)]:
            for lot in ((1, 2), (1, 2, 3)):
                colours = [rng.choice(lot) for _ in range(web.many)]
                for one, other in web.ties:
                    if {colours[one - 1], colours[other - 1]} == {1, 2}:
                        yield web, colours, (one, other)
                        yield web, colours, (other, one)

    def test_walks(self):
        kinds = []
        for web, colours, door in self.told():
            face, doors = slow_walk(web, colours, door)
            right = door_walk(web, colours, door)
            self.assertIs(shows_walk(web, colours, door, right), True)
            self.assertIs(shows_walk(web, tuple(colours), list(door), right), True)
            kinds.append(right.word)
            self.assertIs(shows_walk(web, colours, door, Round(as_lists(doors))), face is None)
            for other in faces_of(web):
                for told in told_anyhow(other):
                    self.assertIs(shows_walk(web, colours, door, Met(told, doors)), face == other)
                    self.assertIs(shows_walk(web, colours, door, Met(told[::-1], doors)), False)
        self.assertEqual(set(kinds), {"met", "round"})

    def test_doors_that_are_not_these(self):
        for web, colours, door in self.told():
            right = door_walk(web, colours, door)
            for doors in self.wrong_doors(right.doors):
                self.assertIs(shows_walk(web, colours, door, self.made(right, doors)), False)
            for start in right.doors[1:]:
                self.assertIs(shows_walk(web, colours, start, right), False)

    def wrong_doors(self, doors):
        yield ()
        yield doors[:-1]
        yield doors[1:]
        yield doors + doors
        yield doors + doors[-1:]
        yield doors[:1] + doors
        yield tuple(side[::-1] for side in doors)
        if len(doors) > 1:
            yield doors[::-1]
            yield doors[1:] + doors[:1]

    def made(self, right, doors):
        return Met(right.face, doors) if right else Round(doors)

    def test_papers_bent_at_one_place(self):
        met = door_walk(NEST, COLOURS, (2, 1))
        went = door_walk(NEST, [1, 1, 1, 1, 1, 1, 2], (4, 7))
        for face in bent(met.face):
            self.assertIs(shows_walk(NEST, COLOURS, (2, 1), Met(face, met.doors)), False)
        for doors in bent(met.doors):
            self.assertIs(shows_walk(NEST, COLOURS, (2, 1), Met(met.face, doors)), False)
        for doors in bent(went.doors):
            self.assertIs(shows_walk(NEST, [1, 1, 1, 1, 1, 1, 2], (4, 7), Round(doors)), False)

    def test_values_that_are_no_such_papers(self):
        met = door_walk(NEST, COLOURS, (2, 1))
        others = [Paper("met", *met.parts), Denial("round", met.doors), Apart(met.doors), met.parts, met.doors]
        others += [Met(met.doors, met.face), Met(None, None), Met(met.face, None), Met(None, met.doors), Round(None)]
        for value in others:
            self.assertIs(shows_walk(NEST, COLOURS, (2, 1), value), False)
        for value in ANYTHING:
            self.assertIs(shows_walk(NEST, COLOURS, (2, 1), value), False)
            self.assertIs(shows_walk(NEST, COLOURS, (2, 1), Met(value, met.doors)), False)
            self.assertIs(shows_walk(NEST, COLOURS, (2, 1), Met(met.face, value)), False)
            self.assertIs(shows_walk(NEST, COLOURS, (2, 1), Round(value)), False)
        self.assertIs(shows_walk(value=met, door=(2, 1), colours=COLOURS, web=NEST), True)

    def test_what_it_refuses(self):
        met = door_walk(NEST, COLOURS, (2, 1))
        for value in ANYTHING:
            self.raises("BadWeb('web')", shows_walk, value, value, value, value)
            self.raises("BadColours('colours')", shows_walk, NEST, value, value, value)
            self.raises("BadFace('door')", shows_walk, NEST, COLOURS, value, value)
            self.raises("Misfit('web')", shows_walk, TAIL, [1, 2, 3, 1], (1, 2), value)
        self.raises("BadFace('door')", shows_walk, NEST, COLOURS, (4, 1), met)
        self.raises("BadColours('colours')", shows_walk, NEST, COLOURS[1:], (2, 1), met)


if __name__ == "__main__":
    unittest.main()
