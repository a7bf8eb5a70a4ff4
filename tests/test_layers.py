"""Layers, upper ones, legs and colours of legs."""

import unittest

from tests.drawn import HANDLE, KNOT, LONE, NEST, PATH, SPLIT, TAIL, THREE, all_tied, triangulated
from tests.slow import slow_layers
from tests.tools import ANYTHING, LISTS, ODD, STRINGS, LaneCase
from threelanes.faces import faces_of
from threelanes.fills import filled
from threelanes.layers import layers_of, leg_colours, leg_of, uppers_of
from threelanes.makes import floor, ring
from threelanes.webs import Web


class Layers(LaneCase):
    def webs(self):
        rng = self.seeded(51)
        for many in (3, 4, 5, 8, 12, 20):
            yield Web(triangulated(rng, many, 15))
        yield NEST
        yield filled(floor(3, 3))

    def told(self):
        for web in self.webs():
            for face in faces_of(web):
                yield web, face

    def test_from_each_face_told_from_each_place(self):
        for web, face in self.told():
            layers = tuple(slow_layers(web, face))
            uppers = [self.upper(web, layers, place) for place in range(1, web.many + 1)]
            for at in range(3):
                outer = face[at:] + face[:at]
                self.assertEqual(layers_of(web, outer), layers)
                self.assertEqual(layers_of(web, list(outer)), layers)
                self.assertEqual(uppers_of(web, outer), tuple(uppers))
                self.assertEqual(uppers_of(web, list(outer)), tuple(uppers))

    def upper(self, web, layers, place):
        above = [other for other in web.around(place) if layers[other - 1] == layers[place - 1] - 1]
        return min(above) if above else 0

    def test_legs(self):
        for web, face in self.told():
            layers, uppers = layers_of(web, face), uppers_of(web, face)
            for place in range(1, web.many + 1):
                leg = leg_of(web, face, place)
                self.assertIsInstance(leg, tuple)
                self.assertEqual(leg[0], place)
                self.assertEqual([layers[at - 1] for at in leg], list(range(layers[place - 1], -1, -1)))
                self.assertEqual([uppers[at - 1] for at in leg], [*leg[1:], 0])
                self.assertIn(leg[-1], face)
                for at in (1, 2):
                    self.assertEqual(leg_of(web, list(face[at:] + face[:at]), place), leg)

    def test_colours_of_legs(self):
        rng = self.seeded(52)
        for web, face in self.told():
            rest = [place for place in range(1, web.many + 1) if place not in face]
            places = list(face) + rng.sample(rest, rng.randrange(len(rest) + 1))
            rng.shuffle(places)
            known = [(place, rng.randrange(1, 4)) for place in places]
            legs = [leg_of(web, face, place) for place in range(1, web.many + 1)]
            wanted = tuple(next(dict(known)[place] for place in leg if place in places) for leg in legs)
            self.assertEqual(leg_colours(web, face, known), wanted)
            self.assertEqual(leg_colours(web, list(face), tuple([list(pair) for pair in known])), wanted)
            self.assertEqual(leg_colours(web, face[1:] + face[:1], known[::-1]), wanted)

    def test_by_name(self):
        outer = (1, 3, 2)
        self.assertEqual(layers_of(outer=outer, web=NEST), (0, 0, 0, 1, 1, 1, 2))
        self.assertEqual(uppers_of(outer=outer, web=NEST), (0, 0, 0, 1, 2, 1, 4))
        self.assertEqual(leg_of(place=7, outer=outer, web=NEST), (7, 4, 1))
        self.assertEqual(leg_colours(known=[(3, 1), (2, 1), (1, 2)], outer=outer, web=NEST), (2, 1, 1, 2, 1, 2, 2))


class Refused(LaneCase):
    def calls(self):
        """Each function with right further arguments, and one more time with wrong ones."""
        known = [(1, 1), (2, 2), (3, 3)]
        yield layers_of, (), ()
        yield uppers_of, (), ()
        yield leg_of, (1,), (0,)
        yield leg_colours, (known,), (None,)

    def test_what_is_no_web(self):
        for call, right, wrong in self.calls():
            for value in ANYTHING:
                self.raises("BadWeb('web')", call, value, (1, 3, 2), *right)
                self.raises("BadWeb('web')", call, value, value, *wrong)

    def test_what_is_no_outer_face(self):
        wrong_faces = [(1, 2, 3), (2, 3, 1), (1, 3), (1, 3, 2, 1), (1, 3, 2, 1, 3, 2), (1, 3, 8), (0, 3, 2), (1, 5, 7)]
        wrong_faces += [(True, 3, 2), (1.0, 3, 2), "132", ((1, 3, 2),), (1, 1, 1), {1: 3}, (-1, 3, 2), ([1], 3, 2)]
        for call, right, wrong in self.calls():
            for value in ANYTHING + wrong_faces:
                self.raises("BadFace('outer')", call, NEST, value, *right)
                self.raises("BadFace('outer')", call, NEST, value, *wrong)
            self.raises("BadFace('outer')", call, ring(4), (1, 2, 3), *right)
            self.raises("BadFace('outer')", call, ring(4), (1, 2, 3, 4), *wrong)
            self.raises("BadFace('outer')", call, PATH, (1, 2, 3), *right)
            self.raises("BadFace('outer')", call, PATH, (1, 2, 3, 2), *wrong)
            self.raises("BadFace('outer')", call, SPLIT, (1, 2), *right)
            self.raises("BadFace('outer')", call, KNOT, (1, 2, 3), *wrong)
            self.raises("BadFace('outer')", call, Web([[]]), (), *wrong)

    def test_places(self):
        for value in ODD + LISTS + STRINGS + [0, 8, -1, 10**30]:
            self.raises("BadNumber('place')", leg_of, NEST, (1, 3, 2), value)

    def test_what_is_not_known(self):
        right = [(1, 1), (3, 3), (2, 2), (7, 1)]
        self.assertEqual(len(leg_colours(NEST, (1, 3, 2), right)), 7)
        for known in (
            [], right[:2], right[1:], right + [(1, 1)], right + [(7, 1)], right + [(8, 1)], right + [(0, 1)],
            right + [(6, 0)], right + [(6, 4)], right + [(6, True)], right + [(6, None)], right + [(True, 2)],
            right + [(6,)], right + [(6, 1, 1)], right + [()], right + [6], right + ["61"], right + [({}, 1)],
            right + [([6], 1)], right + [(6.0, 1)], right + [(6, [1])], dict(right), "1", [right], {(1, 1): 1},
        ):
            self.raises("BadColours('known')", leg_colours, NEST, (1, 3, 2), known)
        for value in ANYTHING:
            self.raises("BadColours('known')", leg_colours, NEST, (1, 3, 2), value)
            self.raises("BadColours('known')", leg_colours, NEST, (1, 3, 2), right + [value])
            self.raises("BadColours('known')", leg_colours, NEST, (1, 3, 2), right + [(value, value)])

    def test_a_web_that_is_not_filled_comes_last(self):
        for web, outer in ((TAIL, (1, 2, 3)), (LONE, (1, 3, 2)), (LONE, (3, 1, 2)), (HANDLE, faces_of(HANDLE)[0])):
            known = [(place, 1) for place in outer]
            for call, right in ((layers_of, ()), (uppers_of, ()), (leg_of, (1,)), (leg_colours, (known,))):
                self.raises("Misfit('web')", call, web, outer, *right)
                self.raises("Misfit('web')", call, web, list(outer), *right)
            self.raises("BadNumber('place')", leg_of, web, outer, 0)
            self.raises("BadColours('known')", leg_colours, web, outer, known[1:])

    def test_great_webs(self):
        web = Web(triangulated(self.seeded(53), 1000, 800))
        outer = faces_of(web)[-1]
        layers = self.quick(layers_of, web, outer)
        self.assertEqual(list(layers), slow_layers(web, outer))
        deep = layers.index(max(layers)) + 1
        self.assertEqual(len(self.quick(leg_of, web, outer, deep)), max(layers) + 1)
        self.assertEqual(len(self.quick(leg_colours, web, outer, [(place, 2) for place in outer])), 1000)
        self.raises("BadFace('outer')", layers_of, Web(all_tied(1000)), (1, 2, 1))

    def test_layers_one_within_another(self):
        turns = [[2, 3], [3, 1], [1, 2]]
        # Each new triangle lies in the last one, its places beside two of that each.
        for at in range(3, 300, 3):
            old, new = (at - 2, at - 1, at), (at + 1, at + 2, at + 3)
            for k in range(3):
                turns[old[k] - 1] = self.beside(turns[old[k] - 1], old[k - 1], (new[k - 1], new[k]))
                turns.append([new[k - 1], old[k], old[(k + 1) % 3], new[(k + 1) % 3]][::-1])
        web = Web(turns)
        layers = self.quick(layers_of, web, (1, 3, 2))
        self.assertEqual(layers, tuple(at // 3 for at in range(300)))
        self.assertEqual(len(leg_of(web, (1, 3, 2), 300)), 100)
        self.assertEqual(leg_of(web, (1, 3, 2), 300)[-1] in (1, 2, 3), True)

    def beside(self, turn, place, new):
        at = turn.index(place) + 1
        return turn[:at] + list(new) + turn[at:]

    def test_three_and_four_places(self):
        self.assertEqual(layers_of(THREE, (1, 2, 3)), (0, 0, 0))
        self.assertEqual(uppers_of(THREE, (3, 2, 1)), (0, 0, 0))


if __name__ == "__main__":
    unittest.main()
