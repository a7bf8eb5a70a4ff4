"""Filled webs, and how flat webs are filled."""

import unittest

from tests.drawn import FOUR, KNOT, NEST, PATH, SPLIT, THREE, all_tied, grown, paths, slow_faces, triangulated, turned
from tests.tools import ANYTHING, LaneCase
from threelanes.faces import faces_of
from threelanes.fills import filled, is_filled
from threelanes.webs import Web


def wanted_faces(web):
    """The faces of what a web is filled to, told from the faces of the web."""
    found = []
    new = web.many + 1
    for face in slow_faces(web.turns):
        many = len(face)
        if many == 3:
            found.append(face)
            continue
        middle = new + many
        for at in range(many):
            one, other, behind = face[at], face[(at + 1) % many], new + (at + 1) % many
            found.append(turned((one, other, new + at)))
            found.append(turned((middle, new + at, behind)))
            found.append(turned((other, behind, new + at)))
        new = middle + 1
    return sorted(found), new - 1


class Filled(LaneCase):
    def test_what_is_filled(self):
        for web in (THREE, FOUR, NEST, Web([[3, 2], [1, 3], [2, 1]])):
            self.assertIs(is_filled(web), True)
        for web in (Web([[]]), Web([[2], [1]]), Web([[], []]), PATH, KNOT, SPLIT, Web([[2, 4], [3, 1], [4, 2], [1, 3]])):
            self.assertIs(is_filled(web), False)
        self.assertIs(is_filled(web=THREE), True)

    def test_filled_webs_made_at_random(self):
        rng = self.seeded(31)
        for many in range(3, 30, 3):
            turns = triangulated(rng, many, 20)
            self.assertIs(is_filled(Web(turns)), True)
            if many > 3:
                one = rng.randrange(1, many + 1)
                other = turns[one - 1].pop()
                turns[other - 1].remove(one)
                self.assertIs(is_filled(Web(turns)), False)

    def test_corners_of_three_alone_are_not_enough(self):
        # Seven places, each tied to all others, on one handle: each face has three corners.
        turns = [[(place + step - 1) % 7 + 1 for step in (1, 3, 2, 6, 4, 5)] for place in range(1, 8)]
        self.assertEqual({len(face) for face in faces_of(Web(turns))}, {3})
        self.assertIs(is_filled(Web(turns)), False)
        self.assertIs(is_filled(Web([[2, 3], [3, 1], [1, 2], [5, 6], [6, 4], [4, 5]])), False)
        self.assertIs(is_filled(Web([[2, 3], [3, 1], [1, 2], []])), False)

    def test_small_webs_that_are_filled(self):
        self.assertEqual(filled(THREE), THREE)
        self.assertEqual(filled(NEST), NEST)
        wanted = "2 7 4 / 1 4 5 3 6 7 / 2 5 6 / 2 1 7 8 5 / 3 2 4 8 6 / 2 3 5 8 7 / 1 2 6 8 4 / 7 6 5 4"
        self.assertEqual(str(filled(web=PATH)), wanted)

    def test_flat_webs_are_filled_as_told(self):
        rng = self.seeded(32)
        for many in range(3, 12):
            for ties in range(0, 2 * many, 3):
                web = Web(grown(rng, many, ties)[0])
                full = filled(web)
                faces, places = wanted_faces(web)
                self.assertEqual(full.many, places)
                self.assertEqual(slow_faces(full.turns), faces)
                self.assertIs(is_filled(full), True)
                self.assertEqual(filled(full), full)
                self.assertLess(full.many, 6 * many)
                self.check_turns(web, full)

    def check_turns(self, web, full):
        """Faces tell all turns but for where each of them begins."""
        for turn, wide in zip(web.turns, full.turns):
            self.assertEqual([place for place in wide if place <= web.many], list(turn))
            self.assertEqual(wide[0], turn[0])
        new = web.many + 1
        for face in slow_faces(web.turns):
            if len(face) > 3:
                for at in range(len(face)):
                    self.assertEqual(full.around(new + at)[:2], (face[(at + 1) % len(face)], face[at]))
                    self.assertEqual(len(full.around(new + at)), 5)
                new += len(face)
                self.assertEqual(full.around(new), tuple(range(new - 1, new - 1 - len(face), -1)))
                new += 1

    def test_what_filled_refuses(self):
        for value in ANYTHING:
            self.raises("BadWeb('web')", filled, value)
            self.raises("BadWeb('web')", is_filled, value)
        for web in (Web([[]]), Web([[2], [1]]), Web([[], []]), KNOT, SPLIT, Web(all_tied(5)), Web([[], [], []])):
            self.raises("Misfit('web')", filled, web)

    def test_bounds(self):
        full = self.quick(filled, Web(paths(150)))
        self.assertEqual(full.many, 150 + 298 + 1)
        self.assertIs(self.quick(is_filled, full), True)
        self.assertEqual(self.quick(filled, Web(triangulated(self.seeded(33), 150))).many, 150)
        self.raises("TooMany('places', 150)", filled, Web(paths(151)))
        self.raises("TooMany('places', 150)", filled, Web(paths(1000)))
        self.raises("TooMany('places', 150)", filled, Web(triangulated(self.seeded(34), 151)))
        self.raises("TooMany('places', 150)", filled, full)
        self.raises("Misfit('web')", filled, Web([[]] * 151))
        self.raises("Misfit('web')", filled, Web(all_tied(151)))

    def test_great_webs(self):
        self.assertIs(self.quick(is_filled, Web(all_tied(1000))), False)
        self.assertIs(self.quick(is_filled, Web(triangulated(self.seeded(35), 1000))), True)


if __name__ == "__main__":
    unittest.main()
