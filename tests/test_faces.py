"""Faces, and webs judged to be flat, apart, or with handles."""

import unittest

from tests.drawn import KNOT, PATH, SPLIT, THREE, all_tied, grown, paths, slow_faces, triangulated
from tests.tools import ANYTHING, LISTS, ODD, STRINGS, LaneCase, random_turns
from threelanes.faces import Apart, Flat, Handles, face_at, faces_of, judged_flat
from threelanes.papers import Denial, Paper
from threelanes.webs import Web


def out_of(web, lot):
    """The ties that lead out of a lot of places."""
    return [tie for tie in web.ties if (tie[0] in lot) != (tie[1] in lot)]


class Faces(LaneCase):
    def test_small_webs(self):
        self.assertEqual(faces_of(Web([[]])), ((),))
        self.assertEqual(faces_of(web=Web([[2], [1]])), ((1, 2),))
        self.assertEqual(faces_of(PATH), ((1, 2, 3, 2),))
        self.assertEqual(faces_of(Web([[2, 3, 4], [1], [1], [1]])), ((1, 2, 1, 3, 1, 4),))
        self.assertEqual(faces_of(Web([[3, 2, 4], [1], [1], [1]])), ((1, 2, 1, 4, 1, 3),))

    def test_webs_that_are_not_joined(self):
        self.assertEqual(faces_of(SPLIT), ((1, 2), (3, 4)))
        self.assertEqual(faces_of(Web([[], [3], [2]])), ((2, 3),))
        self.assertEqual(faces_of(Web([[], []])), ())

    def test_all_faces_ascend_by_their_least_sides(self):
        rng = self.seeded(11)
        for many in range(2, 10):
            for chance in (0.2, 0.5, 0.8, 1):
                web = Web(random_turns(rng, many, chance))
                told = faces_of(web)
                self.assertEqual(told, tuple(slow_faces(web.turns)))
                least = [face[:2] for face in told]
                self.assertEqual(least, sorted(least))
                self.assertEqual(sum(len(face) for face in told), 2 * len(web.ties))

    def test_corners_that_are_more_than_once_in_a_face(self):
        star = Web([[2, 3, 4, 5], [1], [1], [1], [1]])
        self.assertEqual(faces_of(star), ((1, 2, 1, 3, 1, 4, 1, 5),))
        for other in range(2, 6):
            self.assertEqual(face_at(star, other, 1), (1, 2, 1, 3, 1, 4, 1, 5))

    def test_the_face_of_each_side(self):
        rng = self.seeded(12)
        for many in range(2, 9):
            web = Web(random_turns(rng, many, 0.6))
            for face in faces_of(web):
                for at in range(len(face)):
                    self.assertEqual(face_at(web, face[at - 1], face[at]), face)
        self.assertEqual(face_at(other=2, one=3, web=PATH), (1, 2, 3, 2))

    def test_what_face_at_refuses(self):
        for value in ANYTHING:
            self.raises("BadWeb('web')", face_at, value, None, None)
            self.raises("BadWeb('web')", faces_of, value)
            self.raises("BadWeb('web')", judged_flat, value)
        for value in ODD + LISTS + STRINGS + [0, 4, -1, 10**40]:
            self.raises("BadNumber('one')", face_at, PATH, value, 2)
            self.raises("BadNumber('one')", face_at, PATH, value, value)
            self.raises("BadNumber('other')", face_at, PATH, 1, value)
        self.raises("Misfit('other')", face_at, PATH, 1, 3)
        self.raises("Misfit('other')", face_at, PATH, 1, 1)
        self.raises("Misfit('other')", face_at, Web([[]]), 1, 1)


class Judged(LaneCase):
    def test_flat_webs_grow_by_ties_within_faces(self):
        rng = self.seeded(13)
        for many in range(1, 9):
            for ties in range(0, 3 * many, 2):
                web = Web(grown(rng, many, ties)[0])
                told = judged_flat(web)
                faces = 1 if many == 1 else len(slow_faces(web.turns))
                self.assertEqual(told, Flat(many, len(web.ties), faces))
                self.assertEqual((told.places, told.ties, told.faces), told.parts)
                self.assertEqual(many - len(web.ties) + faces, 2)

    def test_handles_grow_by_ties_between_faces(self):
        rng = self.seeded(14)
        seen = set()
        for many in range(4, 9):
            for handles in (1, 2, 3):
                turns, made = grown(rng, many, many // 2, handles)
                told = judged_flat(Web(turns))
                seen.add(made)
                self.assertEqual(told, Handles(made) if made else Flat(*told.parts))
        self.assertTrue({1, 2, 3} <= seen)

    def test_filled_webs_are_flat(self):
        rng = self.seeded(15)
        for many in range(3, 40, 4):
            self.assertEqual(judged_flat(Web(triangulated(rng, many, 30))), Flat(many, 3 * many - 6, 2 * many - 4))

    def test_apart(self):
        rng = self.seeded(16)
        for _ in range(60):
            many = rng.randrange(2, 9)
            web = Web(random_turns(rng, many, 0.25))
            told = judged_flat(web)
            if isinstance(told, Apart):
                self.assertEqual(out_of(web, told.places), [])
                self.assertTrue(0 < len(set(told.places)) == len(told.places) < many)
            else:
                for lot in range(1, 2**many - 1):
                    self.assertTrue(out_of(web, [place for place in range(1, many + 1) if lot >> place - 1 & 1]))

    def test_papers(self):
        flat, apart, handles = Flat([1], 2, faces=3), Apart(places=[1, [2]]), Handles(count=[])
        self.assertEqual((flat.word, flat.parts, flat.places), ("flat", ((1,), 2, 3), (1,)))
        self.assertEqual((apart.word, apart.parts, apart.places), ("apart", ((1, (2,)),), (1, (2,))))
        self.assertEqual((handles.word, handles.parts, handles.count), ("handles", ((),), ()))
        self.assertEqual([bool(flat), bool(apart), bool(handles)], [True, False, False])
        self.assertEqual([Flat.__bases__, Apart.__bases__, Handles.__bases__], [(Paper,), (Denial,), (Denial,)])
        self.assertNotEqual(flat, Paper("flat", [1], 2, 3))
        self.assertNotEqual(Paper("flat", [1], 2, 3), flat)
        self.assertNotEqual(apart, Denial("apart", [1, [2]]))
        self.assertNotEqual(Handles(1), Apart(1))
        self.assertEqual(Flat(1, 2, 3), Flat(faces=3, places=1, ties=2))

    def test_great_webs(self):
        web = Web(all_tied(1000))
        faces = self.quick(faces_of, web)
        self.assertEqual(sum(len(face) for face in faces), 999000)
        told = self.quick(judged_flat, web)
        self.assertEqual(told, Handles((2 - 1000 + 499500 - len(faces)) // 2))
        least = min(faces, key=len)
        self.assertEqual(self.quick(face_at, web, least[-2], least[-1]), least)
        self.assertEqual(self.quick(judged_flat, Web(paths(1000))), Flat(1000, 999, 1))
        self.assertEqual(self.quick(judged_flat, Web([[]] * 1000)).word, "apart")

    def test_all_turns_of_five_places_tied_two_by_two_have_handles(self):
        rng = self.seeded(17)
        for _ in range(200):
            turns = all_tied(5)
            for turn in turns:
                rng.shuffle(turn)
            self.assertEqual(judged_flat(Web(turns)).word, "handles")

    def test_knot(self):
        self.assertEqual(judged_flat(KNOT), Handles(1))
        self.assertEqual(judged_flat(THREE), Flat(3, 3, 2))


if __name__ == "__main__":
    unittest.main()
