"""Rings, floors and wheels; places put in, and ties flipped."""

import unittest

from tests.drawn import FOUR, KNOT, NEST, PATH, SPLIT, THREE, all_tied, triangulated, turned
from tests.tools import ANYTHING, LISTS, ODD, STRINGS, LaneCase, as_lists
from threelanes.faces import Flat, faces_of, judged_flat
from threelanes.fills import is_filled
from threelanes.makes import flipped, floor, put_in, ring, wheel
from threelanes.webs import Web

NO_NUMBERS = ODD + LISTS + STRINGS


class Made(LaneCase):
    def test_rings(self):
        for many in (3, 4, 7, 1000):
            web = ring(many)
            for place in range(1, many + 1):
                ahead = many if place == 1 else place - 1
                behind = 1 if place == many else place + 1
                self.assertEqual(web.around(place), (behind, ahead))
            self.assertEqual((web.many, judged_flat(web)), (many, Flat(many, many, 2)))
        self.assertEqual(ring(many=3), THREE)
        for value in NO_NUMBERS + [2, 1, 0, -3, 1001, 10**30]:
            self.raises("BadNumber('many')", ring, value)

    def test_floors(self):
        for wide, tall in ((1, 1), (1, 4), (4, 1), (2, 3), (5, 4), (1000, 1), (1, 1000), (20, 50)):
            web = floor(wide, tall)
            self.assertEqual(web.many, wide * tall)
            rows = [[line * wide + column + 1 for column in range(wide)] for line in range(tall)]
            at = {rows[line][column]: (line, column) for line in range(tall) for column in range(wide)}
            number = {place: name for name, place in at.items()}
            for name, (line, column) in at.items():
                near = ((line - 1, column), (line, column + 1), (line + 1, column), (line, column - 1))
                self.assertEqual(web.around(name), tuple(number[place] for place in near if place in number))
            self.assertTrue(judged_flat(web))
        self.assertEqual(str(floor(tall=2, wide=3)), "2 4 / 3 5 1 / 6 2 / 1 5 / 2 6 4 / 3 5")

    def test_what_floor_refuses(self):
        for value in NO_NUMBERS + [0, -1, 1001, 10**30]:
            self.raises("BadNumber('wide')", floor, value, 1)
            self.raises("BadNumber('wide')", floor, value, value)
            self.raises("BadNumber('tall')", floor, 1, value)
            self.raises("BadNumber('tall')", floor, 1000, value)
        for wide, tall in ((1000, 2), (2, 501), (32, 32), (1000, 1000)):
            self.raises("TooMany('places', 1000)", floor, wide, tall)

    def test_wheels(self):
        for many in (3, 4, 9, 999):
            web = wheel(many)
            self.assertEqual(web.around(1), tuple(range(2, many + 2)))
            for place in range(2, many + 2):
                ahead = many + 1 if place == 2 else place - 1
                behind = 2 if place == many + 1 else place + 1
                self.assertEqual(web.around(place), (1, ahead, behind))
            self.assertEqual(judged_flat(web), Flat(many + 1, 2 * many, many + 1))
            self.assertIs(is_filled(web), many == 3)
        self.assertEqual(wheel(many=3).many, 4)
        for value in NO_NUMBERS + [2, 1, 0, -3, 1000, 10**30]:
            self.raises("BadNumber('many')", wheel, value)


class PutIn(LaneCase):
    def test_a_place_within_each_face_told_from_each_corner(self):
        rng = self.seeded(41)
        for many in (3, 4, 5, 8, 13):
            web = Web(triangulated(rng, many, 15))
            for face in faces_of(web):
                made = put_in(web, face)
                for at in range(3):
                    self.assertEqual(put_in(web, list(face[at:] + face[:at])), made)
                self.check(web, face, made)

    def check(self, web, face, made):
        new = web.many + 1
        one, two, three = face
        parts = [(one, two, new), (two, three, new), (three, one, new)]
        left = [other for other in faces_of(web) if other != face]
        self.assertEqual(list(faces_of(made)), sorted(left + [turned(part) for part in parts]))
        self.assertEqual(made.around(new), (three, two, one))
        for place in range(1, new):
            turn = made.around(place)
            self.assertEqual(tuple(other for other in turn if other != new), web.around(place))
            self.assertEqual(turn[0], web.around(place)[0])
        self.assertIs(is_filled(made), True)

    def test_what_is_no_face(self):
        for face in (
            (1, 3, 4), (1, 2, 3), (1, 1, 2), (1, 2), (1,), (), (1, 3), (1, 3, 2, 1), (1, 3, 2, 1, 3, 2), (1, 3, 8),
            (0, 1, 3), (True, 3, 2), (1.0, 3, 2), ("1", 3, 2), ((1,), 3, 2), ((1, 3, 2),), "132", {1: 3}, (-1, 3, 2),
        ):
            self.raises("BadFace('face')", put_in, NEST, face)
        for value in ANYTHING:
            self.raises("BadFace('face')", put_in, NEST, value)
            self.raises("BadFace('face')", put_in, NEST, [1, 3, value, 2])
            self.raises("BadWeb('web')", put_in, value, (1, 2, 3))
            self.raises("BadWeb('web')", put_in, value, value)
        self.assertEqual(put_in(face=[3, 2, 1], web=NEST), put_in(NEST, (1, 3, 2)))

    def test_faces_of_webs_that_are_not_filled(self):
        star = Web([[2, 3, 4], [1], [1], [1]])
        for at in range(6):
            face = (1, 2, 1, 3, 1, 4)[at:] + (1, 2, 1, 3, 1, 4)[:at]
            self.raises("Misfit('web')", put_in, star, face)
            self.raises("BadFace('face')", put_in, star, face[::-1])
            self.raises("BadFace('face')", put_in, star, face + face)
            self.raises("BadFace('face')", put_in, star, face[:-1])
        for web, face in ((PATH, [2, 3, 2, 1]), (SPLIT, (1, 2)), (SPLIT, [4, 3]), (Web([[]]), ()), (Web([[]]), [])):
            self.raises("Misfit('web')", put_in, web, face)
        for web, face in ((PATH, [1, 2, 3]), (SPLIT, (1, 2, 1, 2)), (SPLIT, ()), (Web([[]]), (1,)), (Web([[], []]), ())):
            self.raises("BadFace('face')", put_in, web, face)
        for face in faces_of(KNOT):
            self.raises("Misfit('web')", put_in, KNOT, face)
        self.raises("Misfit('web')", put_in, Web([[2, 3], [3, 1], [1, 2], [5], [4]]), (2, 3, 1))
        self.raises("BadFace('face')", put_in, KNOT, (1, 2, 3))

    def test_bounds(self):
        web = Web(triangulated(self.seeded(42), 999))
        most = self.quick(put_in, web, faces_of(web)[7])
        self.assertEqual(most.many, 1000)
        self.raises("TooMany('places', 1000)", put_in, most, faces_of(most)[7])
        self.raises("BadFace('face')", put_in, most, (1, 2))
        self.raises("Misfit('web')", put_in, ring(1000), tuple(range(1, 1001)))


class Flipped(LaneCase):
    def test_each_tie_of_filled_webs(self):
        rng = self.seeded(43)
        refused = 0
        for many in (3, 4, 5, 6, 9, 14):
            web = Web(triangulated(rng, many, 20))
            for one, other in list(web.ties) + [tie[::-1] for tie in web.ties]:
                left = next(face for face in faces_of(web) for at in range(3) if (face[at - 1], face[at]) == (one, other))
                right = next(face for face in faces_of(web) for at in range(3) if (face[at - 1], face[at]) == (other, one))
                x = sum(left) - one - other
                y = sum(right) - one - other
                if x == y or web.tied(x, y):
                    refused += 1
                    self.raises("Misfit('one')", flipped, web, one, other)
                    continue
                made = flipped(web, one, other)
                kept = [face for face in faces_of(web) if face not in (left, right)]
                wanted = kept + [turned((x, one, y)), turned((y, other, x))]
                self.assertEqual(list(faces_of(made)), sorted(wanted))
                self.check_turns(web, made, (one, other), (x, y))
                self.assertEqual(flipped(web, other, one), made)
                back = flipped(made, x, y)
                self.assertEqual((back.ties, faces_of(back)), (web.ties, faces_of(web)))
        self.assertGreater(refused, 0)

    def check_turns(self, web, made, old, new):
        """Faces tell all turns but for where each of them begins."""
        for place in range(1, web.many + 1):
            left = [other for other in web.around(place) if not {place, other} == set(old)]
            kept = [other for other in made.around(place) if not {place, other} == set(new)]
            self.assertEqual(left, kept)
            self.assertEqual(made.around(place)[0], left[0])

    def test_what_is_refused_in_order(self):
        for value in ANYTHING:
            self.raises("BadWeb('web')", flipped, value, 1, 2)
            self.raises("BadWeb('web')", flipped, value, value, value)
        for value in NO_NUMBERS + [0, 8, -1, 10**30]:
            self.raises("BadNumber('one')", flipped, NEST, value, 2)
            self.raises("BadNumber('one')", flipped, NEST, value, value)
            self.raises("BadNumber('other')", flipped, NEST, 1, value)
            self.raises("BadNumber('one')", flipped, Web([[], []]), value, 1)
            self.raises("BadNumber('other')", flipped, Web([[], []]), 1, value)
        for web in (PATH, KNOT, SPLIT, Web([[], []]), ring(4)):
            self.raises("Misfit('web')", flipped, web, 1, 2)
            self.raises("Misfit('web')", flipped, web, 1, 1)
        for one, other in ((1, 5), (5, 1), (1, 1), (7, 7), (7, 2)):
            self.raises("Misfit('other')", flipped, NEST, one, other)
        for one, other in THREE.ties:
            self.raises("Misfit('one')", flipped, THREE, one, other)
        for one, other in FOUR.ties:
            self.raises("Misfit('one')", flipped, FOUR, one, other)

    def test_by_name(self):
        self.assertEqual(flipped(other=4, one=1, web=NEST), flipped(NEST, 1, 4))
        self.assertEqual(as_lists(flipped(NEST, 1, 4).turns)[3], [6, 7, 5, 2])

    def test_great_webs(self):
        web = Web(triangulated(self.seeded(44), 1000, 500))
        for one, other in web.ties[:40]:
            x = web.around(other)[(web.around(other).index(one) + 1) % len(web.around(other))]
            y = web.around(one)[(web.around(one).index(other) + 1) % len(web.around(one))]
            if not web.tied(x, y):
                self.assertTrue(self.quick(flipped, web, one, other, seconds=2).tied(x, y))
        self.raises("Misfit('web')", flipped, Web(all_tied(1000)), 1, 2)


if __name__ == "__main__":
    unittest.main()
