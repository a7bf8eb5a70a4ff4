"""Which Seats are right."""

import unittest

from tests.drawn import FOUR, HANDLE, KNOT, LONE, NEST, SPLIT, paths, triangulated
from tests.slow import are_seats, bent
from tests.tools import ANYTHING, LaneCase, as_lists
from threelanes.check_seats import shows_seats
from threelanes.faces import judged_flat
from threelanes.makes import floor, ring, wheel
from threelanes.papers import Denial, Paper
from threelanes.pieces import Parted
from threelanes.seats import Seats, seated
from threelanes.webs import Web

SMALL = Seats([[0, 0, 0], [1, 0, 0], [2, 0, 0], [3, 1, 0]], [[0, 1, 2, 3]], [None])


def without_tie(web, one, other):
    """The web less a tie."""
    turns = as_lists(web.turns)
    turns[one - 1].remove(other)
    turns[other - 1].remove(one)
    return Web(turns)


class Shown(LaneCase):
    def test_seats_of_flat_webs(self):
        rng = self.seeded(141)
        webs = [Web([[]]), Web([[2], [1]]), ring(5), floor(4, 3), wheel(6), NEST, FOUR]
        webs += [Web(triangulated(rng, many, many)) for many in (5, 9, 20, 40)]
        for web in webs:
            told = seated(web)
            self.assertIs(shows_seats(web, told), True)
            self.assertIs(shows_seats(web, Seats(*as_lists(told.parts))), True)

    def test_other_seats_that_are_right(self):
        many = 12
        for web in (ring(many), floor(4, 3), wheel(11), Web(triangulated(self.seeded(142), many))):
            seats = [(at // 3, 0, at % 3) for at in range(many)]
            self.assertIs(shows_seats(web, Seats(seats, [[0, 1, 2, 3]], [None])), True)
            self.assertIs(shows_seats(web, Seats(seats[::-1], [[0, 1, 2, 3], [3, 4], [9]], [2, 0, None])), True)
        line = Web(paths(9))
        self.assertIs(shows_seats(line, Seats([(7, at, 2) for at in range(9)], [[7]], [None])), True)
        self.assertIs(shows_seats(line, Seats([(10**30, 10**40 + at, 0) for at in range(9)], [[10**30]], [None])), True)

    def test_ties_and_places_taken_away(self):
        kinds = [0, 0]
        for web in (floor(3, 3), wheel(7), NEST, Web(triangulated(self.seeded(143), 12, 12))):
            told = seated(web)
            for one, other in web.ties:
                left = without_tie(web, one, other)
                if judged_flat(left):
                    kinds[0] += 1
                    self.assertIs(shows_seats(left, told), True)
            last = Web([[place for place in turn if place < web.many] for turn in web.turns[:-1]])
            if judged_flat(last):
                kinds[1] += 1
                self.assertIs(shows_seats(last, Seats(told.seats[:-1], told.bags, told.above)), True)
                self.assertIs(shows_seats(last, told), False)
                self.assertIs(shows_seats(web, Seats(told.seats[:-1], told.bags, told.above)), False)
        self.assertGreater(min(kinds), 0)

    def test_ties_put_in(self):
        counts = {True: 0, False: 0}
        for many in (5, 8, 12):
            line = Web(paths(many))
            for told in (seated(line), Seats([(at % 4, at // 2, 0) for at in range(many)], [[0, 1, 2, 3]], [None])):
                for one in range(1, many + 1):
                    for other in range(one + 2, many + 1):
                        turns = as_lists(line.turns)
                        turns[one - 1].append(other)
                        turns[other - 1].insert(0, one)
                        web = Web(turns)
                        wanted = are_seats(web, *told.parts)
                        counts[wanted] += 1
                        self.assertIs(shows_seats(web, told), wanted)
        self.assertGreater(min(counts.values()), 5)

    def test_papers_bent_at_one_place(self):
        counts = {True: 0, False: 0}
        for web, right in ((FOUR, SMALL), (floor(3, 2), seated(floor(3, 2))), (NEST, seated(NEST)), (ring(3), seated(ring(3)))):
            for at in range(3):
                for part in bent(right.parts[at]):
                    parts = right.parts[:at] + (part,) + right.parts[at + 1:]
                    wanted = are_seats(web, *parts)
                    self.assertIs(shows_seats(web, Seats(*parts)), wanted, parts)
                    counts[wanted] += 1
        self.assertGreater(min(counts.values()), 50)

    def test_seats_that_are_wrong(self):
        for value in (
            Seats(SMALL.seats, [[0, 1, 2]], [None]),
            Seats([(0, 0, 0), (0, 0, 1), (0, 0, 2), (0, 0, 3)], [[0]], [None]),
            Seats([(0, 0, 0), (0, 0, 1), (0, 0, 2), (0, 0, 0)], [[0]], [None]),
            Seats([(0, 0, 0), (0, 0, 1), (0, 0, 2), (5, 0, 0)], [[0]], [None]),
            Seats([(0, 0, 0), (0, 0, 1), (0, 0, 2), (0, 2, 0)], [[0]], [None]),
            Seats(SMALL.seats, [[0, 1, 2], [0, 1, 3], [0, 2, 3], [1, 2, 3]], [None, 0, 0, 0]),
            Seats(SMALL.seats, [[0, 1, 2, 3], [0, 1, 2, 3]], [None, None]),
            Seats(SMALL.seats, [[0, 1, 2, 3, 4]], [None]),
            Seats(SMALL.seats, [[0, 1, 2, 3], []], [None, 0]),
            Seats(SMALL.seats, [[3, 2, 1, 0]], [None]),
            Seats(SMALL.seats, [], []),
        ):
            self.assertIs(shows_seats(FOUR, value), False)
        self.assertIs(shows_seats(Web([[]]), Seats([(5, 0, 0)], [[0]], [None])), False)
        self.assertIs(shows_seats(Web([[]]), Seats([(5, 0, 0)], [[5]], [None])), True)
        self.assertIs(shows_seats(Web([[]]), Seats([], [[5]], [None])), False)

    def test_values_that_are_no_such_papers(self):
        others = [Paper("seats", *SMALL.parts), Denial("seats", *SMALL.parts), Parted(*SMALL.parts), SMALL.parts]
        for value in ANYTHING + others:
            self.assertIs(shows_seats(FOUR, value), False)
            for at in range(3):
                told = Seats(*SMALL.parts[:at], value, *SMALL.parts[at + 1:])
                self.assertIs(shows_seats(FOUR, told), told == SMALL)
        self.assertIs(shows_seats(value=SMALL, web=FOUR), True)

    def test_what_it_refuses(self):
        for value in ANYTHING:
            self.raises("BadWeb('web')", shows_seats, value, value)
            self.raises("BadWeb('web')", shows_seats, value, SMALL)
            for web in (SPLIT, KNOT, LONE, HANDLE, Web([[], []])):
                self.raises("Misfit('web')", shows_seats, web, value)
            self.raises("TooMany('places', 150)", shows_seats, Web(paths(151)), value)
        self.raises("Misfit('web')", shows_seats, KNOT, SMALL)

    def test_great_webs(self):
        web = Web(triangulated(self.seeded(144), 150, 100))
        told = seated(web)
        self.assertIs(self.quick(shows_seats, web, told, seconds=2), True)
        many = 20000
        deep = Seats(told.seats, told.bags + told.bags[-1:] * many,
                     told.above + tuple(range(len(told.bags) - 1, len(told.bags) + many - 1)))
        self.assertIs(self.quick(shows_seats, web, deep, seconds=4), True)


if __name__ == "__main__":
    unittest.main()
