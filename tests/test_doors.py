"""Full faces, doors, and walks through them."""

import unittest

from tests.drawn import (
    FOUR, HANDLE, KNOT, LONE, NEST, PATH, SPLIT, TAIL, THREE, nested, slow_faces, triangulated, turned,
)
from tests.slow import bent, sides_of, slow_walk, told_anyhow
from tests.tools import ANYTHING, LaneCase, as_lists
from threelanes.doors import Met, Round, door_walk, full_faces, met_face, paired_faces
from threelanes.papers import Denial, Paper
from threelanes.webs import Web

COLOURS = (1, 2, 3, 1, 2, 1, 1)


def doors_in(web, colours):
    """All doors of a web, both ways."""
    sides = [side for one, other in web.ties for side in ((one, other), (other, one))]
    return [side for side in sides if {colours[place - 1] for place in side} == {1, 2}]


def coloured(case, seed, many=9, rows=4):
    """Webs with colours of every kind."""
    rng = case.seeded(seed)
    for web in [THREE, FOUR, NEST] + [Web(triangulated(rng, size, 15)) for size in range(4, many)]:
        yield web, [1] * web.many
        yield web, [2] * web.many
        yield web, [3] * web.many
        for lot in ((1, 2), (1, 2, 3), (1, 1, 2, 2, 3), (2, 3), (1, 3)):
            for _ in range(rows):
                yield web, [rng.choice(lot) for _ in range(web.many)]


class Papers(LaneCase):
    def test_papers(self):
        met, went = Met([1, [2]], [[1, 2], (3,)]), Round([[1, 2]])
        self.assertEqual((met.word, met.face, met.doors), ("met", (1, (2,)), ((1, 2), (3,))))
        self.assertEqual((went.word, went.doors, went.parts), ("round", ((1, 2),), (((1, 2),),)))
        self.assertEqual(met.parts, (met.face, met.doors))
        self.assertIs(bool(met), True)
        self.assertIs(bool(went), False)
        self.assertEqual((Met.__bases__, Round.__bases__), ((Paper,), (Denial,)))
        self.assertEqual(Met(doors=1, face=2), Met(2, 1))
        self.assertEqual(Round(doors=[None]), Round((None,)))
        self.assertNotEqual(Met(1, 2), Met(1, 3))
        self.assertIs(Paper("met", 1, 2) == Met(1, 2), False)


class Full(LaneCase):
    def test_full_faces_and_pairs(self):
        seen = set()
        for web, colours in coloured(self, 71):
            full = [face for face in slow_faces(web.turns) if {colours[place - 1] for place in face} == {1, 2, 3}]
            self.assertEqual(full_faces(web, colours), tuple(full))
            self.assertEqual(full_faces(web, tuple(colours)), tuple(full))
            self.assertEqual(len(full) % 2, 0)
            seen.add(len(full))
            pairs = {tuple(sorted([face, self.met(web, colours, face)])) for face in full}
            self.assertEqual(paired_faces(web, colours), tuple(sorted(pairs)))
            self.assertEqual(paired_faces(web, tuple(colours)), tuple(sorted(pairs)))
            self.assertEqual(sorted(face for pair in pairs for face in pair), full)
        self.assertTrue({0, 2, 4, 6} <= seen)

    def met(self, web, colours, face):
        [door] = [side for side in sides_of(face) if {colours[place - 1] for place in side} == {1, 2}]
        return slow_walk(web, colours, door)[0]

    def test_none_is_full(self):
        for web in (THREE, FOUR, NEST):
            for colours in ([1] * web.many, [2, 3] + [2] * (web.many - 2), [1, 2] + [2] * (web.many - 2)):
                self.assertEqual((full_faces(web, colours), paired_faces(web, colours)), ((), ()))

    def test_three_places(self):
        self.assertEqual(full_faces(THREE, [3, 1, 2]), ((1, 2, 3), (1, 3, 2)))
        self.assertEqual(paired_faces(THREE, [3, 1, 2]), (((1, 2, 3), (1, 3, 2)),))
        self.assertEqual(door_walk(THREE, [1, 2, 3], (1, 2)), Met((1, 3, 2), [(1, 2)]))
        self.assertEqual(door_walk(THREE, [1, 2, 3], (2, 1)), Met((1, 2, 3), [(2, 1)]))
        self.assertEqual(door_walk(THREE, [1, 2, 1], (2, 1)), Round([(2, 1), (2, 3)]))


class Walks(LaneCase):
    def test_each_walk(self):
        kinds = set()
        for web, colours in coloured(self, 72):
            for door in doors_in(web, colours):
                face, doors = slow_walk(web, colours, door)
                told = door_walk(web, colours, door)
                self.assertEqual(told, Round(doors) if face is None else Met(face, doors))
                self.assertEqual(door_walk(web, tuple(colours), list(door)), told)
                self.assertEqual(told.doors[0], door)
                kinds.add((told.word, len(doors) > 2))
                if told:
                    back = door_walk(web, colours, doors[-1][::-1])
                    self.assertEqual(back.doors[: len(doors)], tuple(side[::-1] for side in doors[::-1]))
        self.assertEqual(kinds, {("met", False), ("met", True), ("round", False), ("round", True)})

    def test_walks_from_full_faces_and_back(self):
        for web, colours in coloured(self, 73):
            for face in full_faces(web, colours):
                told = met_face(web, colours, face)
                self.assertIs(type(told), Met)
                self.assertIn(told.doors[0], sides_of(face))
                self.assertEqual(told, door_walk(web, colours, told.doors[0]))
                back = met_face(web, colours, told.face)
                self.assertEqual(back.face, face)
                self.assertEqual(back.doors, tuple(side[::-1] for side in told.doors[::-1]))
                for outer in told_anyhow(face):
                    self.assertEqual(met_face(web, colours, outer), told)

    def test_by_name(self):
        self.assertEqual(full_faces(colours=COLOURS, web=NEST), ((1, 3, 2), (3, 6, 5)))
        self.assertEqual(paired_faces(colours=COLOURS, web=NEST), (((1, 3, 2), (3, 6, 5)),))
        self.assertEqual(door_walk(door=[4, 2], colours=COLOURS, web=NEST).face, (1, 3, 2))
        self.assertEqual(met_face(outer=[3, 2, 1], web=NEST, colours=COLOURS).face, (3, 6, 5))

    def test_round_a_place_in_the_middle(self):
        for many in (4, 9, 20):
            web = Web(nested(many))
            for place in range(4, many + 1):
                colours = [1] * many
                colours[place - 1] = 2
                for other in web.around(place):
                    told = door_walk(web, colours, (other, place))
                    self.assertIs(type(told), Round)
                    self.assertEqual({one for one, _ in told.doors}, set(web.around(place)))
                    self.assertEqual({end for _, end in told.doors}, {place})


class Refused(LaneCase):
    def calls(self):
        """Each function, with right arguments behind the colours, and with wrong ones."""
        yield full_faces, (), ()
        yield paired_faces, (), ()
        yield door_walk, ((1, 2),), (None,)
        yield met_face, ((1, 3, 2),), ((1, 2, 3),)

    def test_what_is_no_web(self):
        for call, right, wrong in self.calls():
            for value in ANYTHING:
                self.raises("BadWeb('web')", call, value, COLOURS, *right)
                self.raises("BadWeb('web')", call, value, value, *wrong)

    def test_what_are_no_colours(self):
        wrong_colours = [
            COLOURS[:-1], COLOURS + (1,), (0,) + COLOURS[1:], (4,) + COLOURS[1:], (True,) + COLOURS[1:],
            (1.0,) + COLOURS[1:], ("1",) + COLOURS[1:], (None,) + COLOURS[1:], ((1,),) + COLOURS[1:], "1231211",
            dict(enumerate(COLOURS)), [COLOURS], b"1231211", (10**40,) + COLOURS[1:], (-1,) + COLOURS[1:],
        ]
        for call, right, wrong in self.calls():
            for value in wrong_colours + ANYTHING:
                self.raises("BadColours('colours')", call, NEST, value, *right)
                self.raises("BadColours('colours')", call, NEST, value, *wrong)
            for web in (PATH, SPLIT, LONE, KNOT):
                self.raises("BadColours('colours')", call, web, [1] * (web.many + 1), *right)
                self.raises("BadColours('colours')", call, web, [1] * (web.many - 1), *wrong)

    def test_what_is_no_door(self):
        doors = doors_in(NEST, COLOURS)
        values = ANYTHING + list(bent((1, 2))) + [(one, other) for one in range(9) for other in range(9)]
        refused = 0
        for value in values:
            if type(value) in (list, tuple) and [type(item) for item in value] == [int, int] and tuple(value) in doors:
                self.assertEqual(door_walk(NEST, COLOURS, value).doors[0], tuple(value))
            else:
                refused += 1
                self.raises("BadFace('door')", door_walk, NEST, COLOURS, value)
        self.assertGreater(refused, 60)
        for value in ((4, 1), (1, 7), (1, 1), (1, 4), (3, 2), (1, 8), (0, 1), (True, 2), (1, 2, 4), {1: 1, 2: 2}, "12"):
            self.raises("BadFace('door')", door_walk, NEST, COLOURS, value)

    def test_what_is_no_outer_face(self):
        for value in ANYTHING + [(1, 2, 3), (1, 3), (1, 3, 2, 1), (True, 3, 2), (1, 3, 8), ((1, 3, 2),), "132"]:
            self.raises("BadFace('outer')", met_face, NEST, COLOURS, value)
        self.raises("BadFace('outer')", met_face, PATH, [1, 2, 3], (1, 2, 3, 2))
        self.raises("BadFace('outer')", met_face, KNOT, [1, 2, 3, 1], (1, 2, 3, 4))

    def test_a_web_that_is_not_filled_comes_behind(self):
        for web, outer in ((TAIL, (1, 2, 3)), (LONE, (1, 3, 2)), (HANDLE, slow_faces(HANDLE.turns)[0])):
            colours = [1] * web.many
            colours[outer[1] - 1] = 2
            door = (outer[0], outer[1])
            for call, right in ((full_faces, ()), (paired_faces, ()), (door_walk, (door,)), (met_face, (outer,))):
                self.raises("Misfit('web')", call, web, colours, *right)
            self.raises("BadFace('door')", door_walk, web, colours, (outer[0], outer[2]))
            self.raises("BadFace('outer')", met_face, web, colours, outer[:2])
        for web in (PATH, SPLIT, KNOT):
            self.raises("Misfit('web')", full_faces, web, [1] * web.many)
            self.raises("Misfit('web')", door_walk, web, [1, 2] + [3] * (web.many - 2), (1, 2))
        self.raises("Misfit('web')", full_faces, Web([[]]), [1])
        self.raises("BadFace('door')", door_walk, Web([[]]), [1], (1, 1))

    def test_an_outer_face_that_is_not_full_comes_last(self):
        for web, colours in coloured(self, 74, rows=1):
            full = full_faces(web, colours)
            for face in slow_faces(web.turns):
                if face not in full:
                    for outer in told_anyhow(face):
                        self.raises("Misfit('outer')", met_face, web, colours, outer)
        self.raises("Misfit('web')", met_face, TAIL, [1, 1, 1, 1], (1, 2, 3))


class Bounds(LaneCase):
    def test_great_webs(self):
        rng = self.seeded(75)
        for turns in (triangulated(rng, 200, 150), nested(200), nested(200, 0), triangulated(rng, 1000, 500)):
            web = Web(turns)
            for lot in ((1, 2, 3), (1, 2, 2, 1, 3)):
                colours = [rng.choice(lot) for _ in turns]
                pairs = self.quick(paired_faces, web, colours, seconds=4)
                full = self.quick(full_faces, web, colours, seconds=2)
                self.assertEqual(sorted(face for pair in pairs for face in pair), list(full))
                for one, other in pairs[:20]:
                    self.assertEqual(met_face(web, colours, one).face, other)
                    self.assertEqual(turned(one), one)

    def test_a_long_walk(self):
        web = Web(nested(200, 0))
        colours = [1] + [2] * 199
        self.assertEqual(len(self.quick(door_walk, web, colours, (1, 2)).doors), len(web.around(1)))
        colours = [1, 2, 3] + [1, 2] * 98 + [1]
        told = self.quick(met_face, web, colours, (1, 3, 2))
        self.assertEqual(as_lists(told.doors), as_lists(slow_walk(web, colours, told.doors[0])[1]))


if __name__ == "__main__":
    unittest.main()
