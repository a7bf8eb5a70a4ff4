"""Rings, the faces within them, cuts, and pieces."""

import itertools
import unittest

from tests.drawn import (
    FOUR, HANDLE, KNOT, LONE, NEST, PATH, SPLIT, TAIL, THREE, grown, nested, slow_faces, triangulated,
)
from tests.slow import is_parted, random_ring, sides_of, slow_cut, slow_within, told_anyhow
from tests.tools import ANYTHING, LaneCase, as_lists
from threelanes.faces import faces_of
from threelanes.fills import filled
from threelanes.layers import leg_of
from threelanes.makes import floor, ring, wheel
from threelanes.papers import Paper
from threelanes.pieces import Cut, Parted, cut, is_ring, parted, within
from threelanes.webs import Web

NO_RINGS = [
    (1, 2), (2, 1), (1,), (), (1, 2, 1), (1, 2, 3, 1), (1, 3, 2, 1, 3, 2), (1, 2, 5), (1, 7, 4), (1, 2, 8), (0, 1, 2),
    (-1, 1, 2), (True, 2, 3), (1.0, 2, 3), ("1", 2, 3), (None, 2, 3), ((1, 2, 3),), ((1,), 2, 3), "123", {1: 2, 2: 3},
    b"123", (1, 2, 10**40), [1, 4, 5], [1, 2, 5, 7],
]


def filled_webs(case, seed, sizes):
    """Filled webs of some sizes, made at random."""
    rng = case.seeded(seed)
    return [Web(triangulated(rng, many, 2 * many)) for many in sizes]


class Papers(LaneCase):
    def test_papers(self):
        told = Cut([1], [[1], (2,)], [[]])
        self.assertEqual((told.word, told.face, told.legs, told.rims), ("cut", (1,), ((1,), (2,)), ((),)))
        self.assertEqual(told.parts, (told.face, told.legs, told.rims))
        self.assertEqual(Cut(rims=1, legs=2, face=3), Cut(3, 2, 1))
        told = Parted([0], [[0]], [None])
        self.assertEqual((told.word, told.pieces, told.bags, told.above), ("parted", (0,), ((0,),), (None,)))
        self.assertEqual(told.parts, (told.pieces, told.bags, told.above))
        self.assertEqual(Parted(above=1, bags=2, pieces=3), Parted(3, 2, 1))
        self.assertEqual((Cut.__bases__, Parted.__bases__), ((Paper,), (Paper,)))
        self.assertEqual((bool(Cut(0, 0, 0)), bool(Parted(0, 0, 0))), (True, True))


class Rings(LaneCase):
    def test_rings_of_any_web(self):
        for web in (NEST, KNOT, SPLIT, PATH, LONE, TAIL, Web([[]]), floor(3, 2)):
            for size in range(1, min(web.many, 5) + 1):
                for lot in itertools.product(range(1, web.many + 1), repeat=size):
                    tied = all(web.tied(one, other) for one, other in sides_of(lot))
                    wanted = size > 2 and len(set(lot)) == size and tied
                    self.assertIs(is_ring(web, lot), wanted)
                    self.assertIs(is_ring(web, list(lot)), wanted)

    def test_rings_begun_anywhere_and_gone_back(self):
        for many in (3, 4, 9, 1000):
            web = ring(many)
            for at in (0, 1, many - 1):
                told = tuple(range(at + 1, many + 1)) + tuple(range(1, at + 1))
                self.assertIs(is_ring(web, told), True)
                self.assertIs(is_ring(web, list(told[::-1])), True)
                self.assertIs(is_ring(web, told[:-1]), False)
                self.assertIs(is_ring(web, told + told[:1]), False)
        self.assertIs(is_ring(ring=[4, 3, 2, 1], web=ring(4)), True)

    def test_what_is_no_ring(self):
        for value in ANYTHING + NO_RINGS:
            self.assertIs(is_ring(NEST, value), False)
        for value in ANYTHING:
            self.assertIs(is_ring(NEST, [1, 2, value]), False)
            self.raises("BadWeb('web')", is_ring, value, (1, 2, 3))
            self.raises("BadWeb('web')", is_ring, value, value)


class Within(LaneCase):
    def test_faces_within(self):
        rng = self.seeded(91)
        lengths = set()
        for web in filled_webs(self, 92, (3, 4, 5, 7, 9, 12, 16)) + [NEST, THREE, FOUR, filled(floor(2, 2))]:
            for told in [random_ring(rng, web) for _ in range(12)] + slow_faces(web.turns):
                lengths.add(len(told))
                inside = within(web, told)
                self.assertEqual(inside, slow_within(web, told))
                outside = within(web, told[::-1])
                self.assertEqual(sorted(inside + outside), slow_faces(web.turns))
                at = rng.randrange(len(told))
                self.assertEqual(within(web, list(told[at:] + told[:at])), inside)
                self.assertEqual(within(ring=list(told[::-1]), web=web), outside)
        self.assertTrue({3, 4, 5, 6, 8} <= lengths)

    def test_each_face_is_within_itself(self):
        for web in filled_webs(self, 93, (3, 4, 6, 10)):
            for face in slow_faces(web.turns):
                for told in told_anyhow(face):
                    self.assertEqual(within(web, told), (face,))
                    self.assertEqual(len(within(web, told[::-1])), 2 * web.many - 5)

    def test_what_within_refuses(self):
        for value in ANYTHING + NO_RINGS:
            self.raises("BadFace('ring')", within, NEST, value)
        for value in ANYTHING:
            self.raises("BadWeb('web')", within, value, (1, 2, 3))
            self.raises("BadWeb('web')", within, value, value)
        for web, told in ((TAIL, (1, 2, 3)), (LONE, (3, 2, 1)), (KNOT, (1, 2, 3)), (HANDLE, (1, 2, 3)), (ring(4), (1, 2, 3, 4))):
            self.raises("Misfit('web')", within, web, told)
            self.raises("BadFace('ring')", within, web, told[:2])
        for web in (PATH, SPLIT, Web([[]])):
            self.raises("BadFace('ring')", within, web, (1, 2, 3))


class Cuts(LaneCase):
    def cut_all(self, rng, web, outer, told):
        """Cuts a ring, and those that come of it, till no face is left; the faces, one for each ring."""
        found = []
        waiting = [told]
        while waiting:
            told = waiting.pop()
            begins = sorted(rng.sample(range(len(told)), 3))
            got = cut(web, outer, told, begins)
            self.assertIs(type(got), Cut)
            self.assertEqual(got.parts, slow_cut(web, outer, told, begins))
            self.assertEqual(cut(web, list(outer), list(told), tuple(begins)), got)
            inside = [face for rim in got.rims if rim for face in within(web, rim)]
            at = got.face.index(min(got.face))
            face = got.face[at:] + got.face[:at]
            self.assertEqual(sorted([*inside, face]), list(within(web, told)))
            for corner, leg in zip(got.face, got.legs):
                self.assertEqual(leg_of(web, outer, corner)[: len(leg)], leg)
                self.assertEqual([place in told for place in leg], [False] * (len(leg) - 1) + [True])
            found.append(face)
            waiting.extend(rim for rim in got.rims if rim)
        return found

    def test_the_outer_face_gone_back_and_on_to_the_last_face(self):
        rng = self.seeded(94)
        for web in filled_webs(self, 95, (3, 4, 5, 7, 10, 13)) + [NEST, filled(PATH)]:
            for face in slow_faces(web.turns):
                at = rng.randrange(3)
                outer = face[at:] + face[:at]
                found = self.cut_all(rng, web, outer, outer[::-1])
                self.assertEqual(sorted([*found, face]), slow_faces(web.turns))
                self.assertEqual(len(found), 2 * web.many - 5)

    def test_rings_that_are_told(self):
        rng = self.seeded(96)
        refused = 0
        for web in filled_webs(self, 97, (6, 9, 12)):
            for _ in range(25):
                told = random_ring(rng, web)
                for face in slow_faces(web.turns):
                    begins = sorted(rng.sample(range(len(told)), 3))
                    if face in slow_within(web, told):
                        refused += 1
                        self.raises("Misfit('ring')", cut, web, face[1:] + face[:1], told, begins)
                    else:
                        self.assertEqual(cut(web, face, told, begins).parts, slow_cut(web, face, told, begins))
        self.assertGreater(refused, 100)

    def test_all_begins(self):
        for web in (NEST, filled(PATH)):
            outer = faces_of(web)[0]
            told = outer[::-1]
            while told:
                got = None
                for begins in itertools.combinations(range(len(told)), 3):
                    got = cut(web, outer, told, begins)
                    self.assertEqual(got.parts, slow_cut(web, outer, told, begins))
                told = max(got.rims, key=len)

    def test_rings_of_two_places_are_told_empty(self):
        self.assertEqual(cut(THREE, (1, 2, 3), (1, 3, 2), (0, 1, 2)).parts, ((1, 3, 2), ((1,), (3,), (2,)), ((), (), ())))
        self.assertEqual(cut(THREE, (1, 2, 3), (3, 2, 1), (0, 1, 2)).face, (3, 2, 1))
        self.assertEqual(cut(begins=[0, 1, 2], ring=[1, 3, 2], outer=[1, 2, 3], web=THREE).rims, ((), (), ()))

    def test_what_are_no_begins(self):
        for begins in (
            (0, 2, 1), (0, 0, 1), (0, 1, 1), (1, 1, 1), (2, 1, 0), (0, 1), (0, 1, 2, 3), (), (0, 1, 3), (-1, 0, 1),
            (False, 1, 2), (0, True, 2), (0.0, 1, 2), ("0", 1, 2), (None, 1, 2), "012", {0: 1, 1: 2, 2: 3}, ((0, 1, 2),),
            (0, 1, 10**40), b"012",
        ):
            self.raises("BadNumber('begins')", cut, NEST, (1, 3, 2), (1, 2, 3), begins)
        for value in ANYTHING:
            self.raises("BadNumber('begins')", cut, NEST, (1, 3, 2), (1, 2, 3), value)
            self.raises("BadNumber('begins')", cut, NEST, (1, 3, 2), (1, 2, 3), [0, 1, 2, value])

    def test_the_first_wrong_parameter_is_told(self):
        for value in ANYTHING:
            self.raises("BadWeb('web')", cut, value, value, value, value)
            self.raises("BadFace('outer')", cut, NEST, value, value, value)
            self.raises("BadFace('ring')", cut, NEST, (1, 3, 2), value, value)
        for value in NO_RINGS:
            self.raises("BadFace('ring')", cut, NEST, (1, 3, 2), value, (0, 1, 2))
            self.raises("BadFace('ring')", cut, NEST, (1, 3, 2), value, (0, 1, 1))
        self.raises("BadFace('outer')", cut, NEST, (1, 2, 3), (1, 2, 3), (0, 1, 2))
        for web, outer in ((TAIL, (1, 2, 3)), (LONE, (1, 2, 3)), (LONE, (1, 3, 2))):
            self.raises("Misfit('web')", cut, web, outer, (1, 2, 3), (0, 1, 2))
            self.raises("Misfit('web')", cut, web, outer, (3, 2, 1), (0, 1, 2))
            self.raises("BadNumber('begins')", cut, web, outer, (1, 2, 3), (0, 1, 3))
            self.raises("BadFace('ring')", cut, web, outer, (1, 2), (0, 1, 3))
        for told in ((1, 3, 2), (3, 2, 1), (2, 1, 3), (6, 5, 4)):
            self.raises("Misfit('ring')", cut, NEST, (1, 3, 2), told, (0, 1, 2))
        self.raises("BadNumber('begins')", cut, NEST, (1, 3, 2), (1, 3, 2), (0, 1, 3))


class Pieces(LaneCase):
    def test_filled_webs_from_each_face(self):
        rng = self.seeded(98)
        for many in range(3, 31):
            web = Web(triangulated(rng, many, rng.randrange(2 * many)))
            for face in slow_faces(web.turns):
                self.check(web, face)

    def check(self, web, face):
        told = parted(web, face)
        self.assertIs(type(told), Parted)
        self.assertIs(is_parted(web, face, *told.parts), True)
        self.assertEqual(parted(web, list(face)), told)
        for outer in (face[1:] + face[:1], [face[2], face[0], face[1]]):
            self.assertIs(is_parted(web, face, *parted(web, outer).parts), True)

    def test_flat_webs_that_were_filled(self):
        rng = self.seeded(99)
        webs = [PATH, floor(3, 3), wheel(7), ring(6), Web([[2, 3, 4, 5], [1], [1], [1], [1]])]
        webs += [Web(grown(rng, many, many // 2)[0]) for many in (5, 7, 9)]
        for web in webs:
            full = filled(web)
            for face in faces_of(full)[::7]:
                self.check(full, face)

    def test_deep_webs(self):
        for many in (4, 12, 30):
            for step in (0, 1):
                web = Web(nested(many, step))
                for face in faces_of(web)[::5]:
                    self.check(web, face)

    def test_what_parted_refuses(self):
        for value in ANYTHING:
            self.raises("BadWeb('web')", parted, value, value)
            self.raises("BadFace('outer')", parted, NEST, value)
        for value in [(1, 2, 3), (1, 3), (1, 3, 2, 1), (True, 3, 2), (1, 3, 8), "132"]:
            self.raises("BadFace('outer')", parted, NEST, value)
        for web, outer in ((TAIL, (1, 2, 3)), (LONE, (1, 3, 2)), (HANDLE, slow_faces(HANDLE.turns)[0])):
            self.raises("Misfit('web')", parted, web, outer)
            self.raises("BadFace('outer')", parted, web, outer[:2])
        self.assertEqual(parted(outer=[1, 3, 2], web=NEST), parted(NEST, (1, 3, 2)))


class Bounds(LaneCase):
    def test_great_webs(self):
        rng = self.seeded(100)
        for turns in (triangulated(rng, 200, 150), triangulated(rng, 200), nested(200), nested(200, 0)):
            web = Web(turns)
            outer = faces_of(web)[-1]
            told = self.quick(parted, web, outer, seconds=3)
            self.assertIs(is_parted(web, outer, *told.parts), True)
            begins = (0, 1, 2)
            got = self.quick(cut, web, outer, outer[::-1], begins, seconds=2)
            self.assertEqual(as_lists(got.parts), as_lists(slow_cut(web, outer, outer[::-1], begins)))
            told = random_ring(rng, web)
            inside = self.quick(within, web, told, seconds=2)
            self.assertEqual(len(inside) + len(self.quick(within, web, told[::-1], seconds=2)), 396)

    def test_webs_of_a_thousand_places(self):
        for turns in (triangulated(self.seeded(101), 1000, 500), nested(1000)):
            web = Web(turns)
            told = self.quick(parted, web, faces_of(web)[0])
            self.assertEqual(len(told.pieces), 1000)


if __name__ == "__main__":
    unittest.main()
