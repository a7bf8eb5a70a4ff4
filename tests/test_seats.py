"""Seats of flat webs, and near seats."""

import itertools
import unittest

from tests.drawn import HANDLE, KNOT, LONE, SPLIT, add_tie, all_tied, grown, nested, paths, put_behind, slow_faces, triangulated
from tests.slow import are_seats, bent, is_tree
from tests.tools import ANYTHING, LaneCase, as_lists
from threelanes.bags import BagTree
from threelanes.check_seats import shows_seats
from threelanes.faces import Flat, Handles, faces_of, judged_flat
from threelanes.makes import floor, ring, wheel
from threelanes.papers import Denial, Paper
from threelanes.pieces import Parted
from threelanes.seats import Seats, are_near, seated
from threelanes.webs import Web, mirrored, renamed

SMALL = Seats([], [[0, 1, 2, 3], [2, 3, 5], [7]], [None, 0, 1])


def star(many):
    """The turns of a place that is tied to all others."""
    return [list(range(2, many + 1))] + [[1]] * (many - 1)


class Papers(LaneCase):
    def test_papers(self):
        told = Seats([[0, 0, 0]], [[0]], [None])
        self.assertEqual((told.word, told.seats, told.bags, told.above), ("seats", ((0, 0, 0),), ((0,),), (None,)))
        self.assertEqual(told.parts, (told.seats, told.bags, told.above))
        self.assertEqual(Seats(above=1, bags=2, seats=3), Seats(3, 2, 1))
        self.assertEqual((Seats.__bases__, bool(told)), ((Paper,), True))


class Seated(LaneCase):
    def check(self, web):
        told = seated(web)
        self.assertIs(type(told), Seats)
        self.assertIs(are_seats(web, *told.parts), True)
        self.assertEqual(seated(Web(as_lists(web.turns))), told)
        return told

    def test_few_places(self):
        for turns in ([[]], [[2], [1]], [[2, 3], [3, 1], [1, 2]], [[2], [1, 3], [2]], [[2, 3], [1], [1]]):
            self.check(Web(turns))
        self.assertEqual(seated(web=Web([[]])), seated(Web([[]])))

    def test_webs_that_are_made(self):
        for many in (3, 4, 5, 12):
            for web in (Web(paths(many)), Web(star(many)), ring(many), wheel(many), floor(many, 2), floor(3, many)):
                self.check(web)
        for web in (floor(1, 1), floor(1, 2), floor(6, 6), wheel(30)):
            self.check(web)

    def test_webs_made_at_random(self):
        rng = self.seeded(131)
        for many in range(3, 22):
            for web in (Web(grown(rng, many, rng.randrange(many))[0]), Web(triangulated(rng, many, many))):
                self.check(web)
                self.check(mirrored(web))
                self.check(renamed(web, rng.sample(range(1, many + 1), many)))

    def test_webs_of_sixty_places(self):
        rng = self.seeded(132)
        for turns in (triangulated(rng, 60, 60), nested(60), nested(60, 0), paths(60), star(60), grown(rng, 60, 20)[0]):
            web = Web(turns)
            told = self.quick(seated, web, seconds=2)
            self.assertIs(are_seats(web, *told.parts), True)
        for web in (floor(6, 10), floor(30, 2), ring(60), wheel(59)):
            self.assertIs(are_seats(web, *self.quick(seated, web, seconds=2).parts), True)

    def test_webs_of_150_places(self):
        rng = self.seeded(133)
        for turns in (triangulated(rng, 150, 90), nested(150), paths(150), star(150)):
            web = Web(turns)
            told = self.quick(seated, web, seconds=4)
            self.assertIs(are_seats(web, told.seats, told.bags, told.above), True)
            self.assertEqual(BagTree(told.bags, told.above).bags, told.bags)
        told = self.quick(seated, floor(15, 10), seconds=4)
        self.assertIs(shows_seats(floor(15, 10), told), True)

    def test_what_seated_refuses(self):
        for value in ANYTHING:
            self.raises("BadWeb('web')", seated, value)
        for web in (Web([[], []]), SPLIT, KNOT, LONE, HANDLE, Web(all_tied(5)), Web([[]] * 3), Web(all_tied(152))):
            self.raises("Misfit('web')", seated, web)
        for turns in (paths(151), star(200), triangulated(self.seeded(134), 151), paths(1000)):
            self.raises("TooMany('places', 150)", seated, Web(turns))
        self.raises("Misfit('web')", seated, Web([[]] * 151))


class Growing(LaneCase):
    def test_webs_grown_step_by_step(self):
        kinds = set()
        for seed in range(12):
            rng = self.seeded(1000 + seed)
            turns, faces, handles = [[]], 1, 0
            for _ in range(22):
                step = rng.choice(("place", "place", "within", "within", "between"))
                if step == "place":
                    self.put_place(rng, turns)
                elif add_tie(rng, turns, step == "within"):
                    faces += 1 if step == "within" else -1
                    handles += step == "between"
                self.check(Web(turns), faces, handles)
                kinds.add((handles > 0, faces > 1))
        self.assertEqual(kinds, {(False, False), (False, True), (True, False), (True, True)})

    def put_place(self, rng, turns):
        """Puts a further place into a corner."""
        place = rng.randrange(1, len(turns) + 1)
        turns.append([place])
        if turns[place - 1]:
            put_behind(turns[place - 1], rng.choice(turns[place - 1]), len(turns))
        else:
            turns[place - 1].append(len(turns))

    def check(self, web, faces, handles):
        self.assertEqual(len(faces_of(web)), faces)
        if web.many > 1:
            self.assertEqual(list(faces_of(web)), slow_faces(web.turns))
        if handles:
            self.assertEqual(judged_flat(web), Handles(handles))
            self.raises("Misfit('web')", seated, web)
            self.raises("Misfit('web')", shows_seats, web, None)
        else:
            self.assertEqual(judged_flat(web), Flat(web.many, len(web.ties), faces))
            told = seated(web)
            self.assertIs(are_seats(web, *told.parts), True)
            self.assertIs(shows_seats(web, told), True)


class Near(LaneCase):
    def test_all_seats_of_a_small_tree(self):
        seats = list(itertools.product((0, 2, 5, 6, 7), (0, 1, 2, 3), (0, 1, 2)))
        pairs = {(0, 2), (2, 5)}
        counts = [0, 0]
        for one, other in itertools.product(seats, seats):
            close = one[0] == other[0] or (one[0], other[0]) in pairs or (other[0], one[0]) in pairs
            wanted = one != other and abs(one[1] - other[1]) <= 1 and close
            counts[wanted] += 1
            self.assertIs(are_near(SMALL, one, other), wanted)
        self.assertGreater(min(counts), 100)
        self.assertIs(are_near(other=[2, 10**30 + 1, 0], one=(0, 10**30, 0), value=SMALL), True)
        self.assertIs(are_near(SMALL, (10**30, 4, 0), (10**30, 4, 1)), True)
        self.assertIs(are_near(SMALL, (10**30, 4, 0), [10**30, 4, 0]), False)

    def test_seats_of_tied_places_are_near(self):
        for web in (floor(4, 4), wheel(9), Web(triangulated(self.seeded(135), 20, 20))):
            told = seated(web)
            for one, other in web.ties:
                self.assertIs(are_near(told, told.seats[one - 1], told.seats[other - 1]), True)
                self.assertIs(are_near(told, list(told.seats[other - 1]), told.seats[one - 1]), True)

    def test_the_bags_alone_count(self):
        for seats in ([], None, "no", [(0, 0, 0), (0, 0, 0)], [[9, 9, 9]]):
            self.assertIs(are_near(Seats(seats, [[0, 1]], [None]), (0, 0, 0), (1, 1, 0)), True)

    def test_what_are_no_seats(self):
        for value in bent((2, 0, 1)):
            right = type(value) is tuple and [type(item) for item in value] == [int] * 3
            if right and min(value) >= 0 and value[2] < 3:
                self.assertIs(are_near(SMALL, value, value), False)
            else:
                self.raises("BadSeats('one')", are_near, SMALL, value, (0, 0, 0))
                self.raises("BadSeats('one')", are_near, SMALL, value, value)
                self.raises("BadSeats('other')", are_near, SMALL, (0, 0, 0), value)
        for value in ANYTHING:
            self.raises("BadSeats('one')", are_near, SMALL, value, (0, 0, 0))
            self.raises("BadSeats('one')", are_near, SMALL, value, value)
            self.raises("BadSeats('other')", are_near, SMALL, (0, 0, 0), value)
            self.raises("BadPaper('value')", are_near, value, (0, 0, 0), (1, 0, 0))
            self.raises("BadPaper('value')", are_near, value, value, value)

    def test_what_are_no_trees(self):
        counts = [0, 0]
        parts = (), ((0, 1, 2, 3), (2, 3, 5), (7,)), (None, 0, 1)
        for at in (1, 2):
            for part in bent(parts[at]):
                told = parts[:at] + (part,) + parts[at + 1:]
                right = is_tree(told[1], told[2], 1, 4)
                counts[right] += 1
                if right:
                    self.assertIs(are_near(Seats(*told), (0, 0, 0), (0, 0, 1)), True)
                else:
                    self.raises("BadPaper('value')", are_near, Seats(*told), (0, 0, 0), (0, 0, 1))
                    self.raises("BadPaper('value')", are_near, Seats(*told), None, None)
        self.assertGreater(min(counts), 5)
        for value in (
            Paper("seats", *SMALL.parts), Denial("seats", *SMALL.parts), Parted(*SMALL.parts), SMALL.parts,
            Seats([], [], []), Seats([], [[0, 1, 2, 3, 4]], [None]), Seats([], [[]], [None]), Seats([], None, None),
        ):
            self.raises("BadPaper('value')", are_near, value, (0, 0, 0), (0, 0, 1))


if __name__ == "__main__":
    unittest.main()
