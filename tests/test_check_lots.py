"""Which papers about lots are right."""

import itertools
import unittest

from tests.drawn import FOUR, HANDLE, KNOT, LONE, NEST, PATH, SPLIT, all_tied, paths, triangulated
from tests.slow import bent, is_row
from tests.slow_lots import are_slow_shares, greatest_size, is_slow_lot, is_slow_untied, most_places, parts_web
from tests.tools import ANYTHING, LaneCase, random_turns
from threelanes.check_lots import shows_best, shows_parting, shows_shares
from threelanes.lots import Best, Parting, Shares, best_lot, parting_of, shares_of
from threelanes.makes import floor, ring, wheel
from threelanes.papers import Denial, Paper
from threelanes.webs import Web

LINE = Web([[2], [1, 3], [2, 4], [3]])
STAR = Web([[2, 3, 4, 5], [1], [1], [1], [1]])
WRONG = (SPLIT, KNOT, LONE, HANDLE, Web([[], []]), Web(all_tied(5)), Web([[]] * 151))


def is_slow_best(web, value):
    """Whether any value is a greatest untied lot of a web."""
    if not is_slow_lot(web, value) or not is_slow_untied(web, value):
        return False
    return len(value) == greatest_size(web, range(1, web.many + 1))


class Counting(LaneCase):
    def setUp(self):
        self.counts = {True: 0, False: 0}

    def agree(self, wanted, call, *values):
        self.counts[wanted] += 1
        self.assertIs(call(*values), wanted, values)


class BestLots(Counting):
    def test_all_lots_of_small_webs(self):
        rng = self.seeded(231)
        for web in (LINE, STAR, KNOT, SPLIT, LONE, Web([[]]), Web([[], []]), ring(5), Web(random_turns(rng, 6, 0.4))):
            for size in range(web.many + 2):
                for lot in itertools.product(range(web.many + 2), repeat=size) if size < 4 else itertools.combinations(range(1, web.many + 1), size):
                    self.agree(is_slow_best(web, lot), shows_best, web, Best(lot))
                    self.assertIs(shows_best(web, Best(list(lot))), is_slow_best(web, lot))
        self.assertGreater(min(self.counts.values()), 20)

    def test_lots_that_are_told(self):
        rng = self.seeded(232)
        for web in (LINE, STAR, NEST, FOUR, floor(6, 4), wheel(23), Web([[]] * 24), Web(random_turns(rng, 24, 0.2)), Web(all_tied(24))):
            told = self.quick(best_lot, web, seconds=2)
            self.assertIs(self.quick(shows_best, web, told, seconds=2), True)
            self.assertIs(shows_best(web, Best(told.lot[::-1])), True)
            self.assertIs(shows_best(web, Best(list(told.lot))), True)
            for lot in bent(told.lot):
                self.agree(is_slow_best(web, lot), shows_best, web, Best(lot))
        self.assertGreater(min(self.counts.values()), 10)

    def test_values_that_are_no_such_papers(self):
        for value in ANYTHING + [Paper("best", (1, 3)), Denial("best", (1, 3)), Parting((1, 3)), Shares((1, 3)), (1, 3), [1, 3]]:
            self.assertIs(shows_best(LINE, value), False)
        for value in ANYTHING + [Best((1, 3)), {1: 3}, {1, 3}, "13", [1, 3.0], [True, 3], [[1], 3], [1, None]]:
            self.assertIs(shows_best(LINE, Best(value)), False)
        self.assertIs(shows_best(value=Best([4, 2]), web=LINE), True)

    def test_what_it_refuses(self):
        for value in ANYTHING + [Best([1, 3])]:
            self.raises("BadWeb('web')", shows_best, None, value)
            for web in (Web([[]] * 25), Web(paths(25)), Web(all_tied(30)), Web(paths(1000))):
                self.raises("TooMany('places', 24)", shows_best, web, value)
        for value in ANYTHING:
            self.raises("BadWeb('web')", shows_best, value, value)


class SharesOf(Counting):
    def test_all_lots_of_small_webs(self):
        for web in (LINE, Web([[]]), Web([[2], [1]]), PATH, STAR, FOUR):
            lots = [lot for size in range(4) for lot in itertools.combinations(range(1, web.many + 1), size)]
            for k in (2, 3):
                told = shares_of(web, k).lots
                for rest, lot in itertools.product(range(k), lots):
                    value = told[:rest] + (lot,) + told[rest + 1:]
                    self.agree(are_slow_shares(web, k, value), shows_shares, web, k, Shares(value))
            for value in itertools.product(lots, lots):
                self.agree(are_slow_shares(web, 2, value), shows_shares, web, 2, Shares(value))
        self.assertGreater(min(self.counts.values()), 20)

    def test_shares_bent_at_one_place(self):
        rng = self.seeded(233)
        for web in (LINE, STAR, NEST, floor(4, 3), wheel(6), Web(triangulated(rng, 9, 9))):
            for k in (2, 3):
                told = shares_of(web, k)
                self.assertIs(shows_shares(web, k, told), True)
                self.assertIs(shows_shares(web, k, Shares([list(lot[::-1]) for lot in told.lots])), True)
                for lots in bent(told.lots):
                    self.agree(are_slow_shares(web, k, lots), shows_shares, web, k, Shares(lots))
        self.assertGreater(min(self.counts.values()), 20)

    def test_as_many_lots_as_rests(self):
        for web in (LINE, Web([[]]), Web([[2], [1]])):
            two, three = shares_of(web, 2), shares_of(web, 3)
            self.assertEqual([shows_shares(web, 2, two), shows_shares(web, 3, three)], [True, True])
            self.assertEqual([shows_shares(web, 3, two), shows_shares(web, 2, three)], [False, False])
            self.assertIs(shows_shares(web, 2, Shares(two.lots + ((),))), False)
            self.assertIs(shows_shares(web, 2, Shares(two.lots[::-1])), False)
            self.assertIs(shows_shares(web, 2, Shares([])), False)

    def test_webs_of_forty_places_and_more(self):
        rng = self.seeded(234)
        for web in (Web(triangulated(rng, 40, 60)), floor(8, 5), wheel(39), Web(paths(40)), Web(triangulated(rng, 150, 90))):
            for k in (2, 3):
                told = self.quick(shares_of, web, k, seconds=2)
                self.assertIs(self.quick(shows_shares, web, k, told, seconds=2), True)
                for rest, lot in enumerate(told.lots):
                    for value in (lot[1:], lot + (1,), lot[1:] + (web.many,)):
                        lots = told.lots[:rest] + (value,) + told.lots[rest + 1:]
                        if web.many == 40:
                            self.agree(are_slow_shares(web, k, lots), shows_shares, web, k, Shares(lots))

    def test_values_that_are_no_such_papers(self):
        right = shares_of(LINE, 2).lots
        for value in ANYTHING + [Paper("shares", right), Denial("shares", right), Best(right), right, list(right)]:
            self.assertIs(shows_shares(LINE, 2, value), False)
        for value in ANYTHING + [Shares(right), "12", {0: right[0], 1: right[1]}]:
            self.assertIs(shows_shares(LINE, 2, Shares(value)), False)
            self.assertIs(shows_shares(LINE, 2, Shares([right[0], value])), False)
        self.assertIs(shows_shares(value=Shares(right), k=2, web=LINE), True)

    def test_what_it_refuses(self):
        right = shares_of(LINE, 2)
        for value in ANYTHING + [right]:
            self.raises("BadWeb('web')", shows_shares, value, value, value)
            for k in (0, 1, 4, True, 2.0, "2", None, [2]):
                for web in (LINE, SPLIT, Web(paths(151))):
                    self.raises("BadNumber('k')", shows_shares, web, k, value)
            for k in (2, 3):
                for web in WRONG:
                    self.raises("Misfit('web')", shows_shares, web, k, value)
                self.raises("TooMany('places', 150)", shows_shares, Web(paths(151)), k, value)
        for value in ANYTHING:
            if not (type(value) is int and value in (2, 3)):
                self.raises("BadNumber('k')", shows_shares, LINE, value, right)


class PartingOf(Counting):
    def test_all_lots_of_small_webs(self):
        for web in (LINE, STAR, Web([[]]), Web([[2], [1]]), PATH, FOUR, ring(6), floor(3, 2)):
            for size in range(web.many + 1):
                for lot in itertools.combinations(range(1, web.many + 1), size):
                    self.agree(parts_web(web, lot), shows_parting, web, Parting(lot))
                    self.assertIs(shows_parting(web, Parting(list(lot[::-1]))), parts_web(web, lot))
        self.assertGreater(min(self.counts.values()), 20)

    def test_lots_that_are_told(self):
        rng = self.seeded(235)
        webs = [Web(paths(many)) for many in (40, 60, 150)] + [wheel(39), wheel(59), wheel(149), floor(8, 5), floor(10, 6), floor(15, 10)]
        webs += [Web(triangulated(rng, many, many)) for many in (40, 60, 150)]
        for web in webs:
            told = self.quick(parting_of, web, seconds=2)
            self.assertIs(self.quick(shows_parting, web, told, seconds=2), True)
            self.assertIs(shows_parting(web, Parting(told.lot[::-1])), True)
            for at in range(len(told.lot)):
                for lot in (told.lot[:at] + told.lot[at + 1:], told.lot[:at] + (1,) + told.lot[at + 1:]):
                    self.agree(parts_web(web, lot), shows_parting, web, Parting(lot))
        self.assertGreater(min(self.counts.values()), 20)

    def test_how_many_places(self):
        # Of a wheel of 150 places, which has two layers, any 24 others may be told beside those that part it, but no more.
        web = wheel(149)
        self.assertEqual(most_places(web), 24)
        lot = (1, 2, 60, 100)
        self.assertIs(shows_parting(web, Parting(lot)), True)
        for many, wanted in ((20, True), (21, False), (100, False)):
            value = lot + tuple(range(3, 3 + many)) if many < 57 else tuple(range(1, 151))
            self.agree(wanted, shows_parting, web, Parting(value))
            self.assertIs(parts_web(web, value), wanted)
        star = Web([list(range(2, 41))] + [[1]] * 39)
        self.assertEqual([shows_parting(star, Parting(range_of(many))) for many in (0, 1, most_places(star), most_places(star) + 1, 40)],
                         [False, True, True, False, False])
        for web in (Web(all_tied(3)), Web([[]]), LINE):
            self.assertIs(shows_parting(web, Parting(range_of(web.many))), True)

    def test_lots_bent_at_one_place(self):
        for web, lot in ((LINE, (2,)), (ring(6), (1, 4)), (floor(3, 3), (2, 5, 8)), (Web([[]]), (1,)), (STAR, (1,))):
            for value in bent(lot):
                self.agree(is_row(value) and parts_web(web, value), shows_parting, web, Parting(value))
        self.assertGreater(min(self.counts.values()), 5)

    def test_values_that_are_no_such_papers(self):
        for value in ANYTHING + [Paper("parting", (2,)), Denial("parting", (2,)), Best((2,)), Shares((2,)), (2,), [2]]:
            self.assertIs(shows_parting(LINE, value), False)
        for value in ANYTHING + [Parting((2,)), {2: 2}, {2}, "2", 2, [2, 2], [2, 5], [2, 0], [2, True], [2.0]]:
            self.assertIs(shows_parting(LINE, Parting(value)), False)
        self.assertIs(shows_parting(value=Parting([3]), web=LINE), True)

    def test_what_it_refuses(self):
        for value in ANYTHING + [Parting([2])]:
            self.raises("BadWeb('web')", shows_parting, value, value)
            for web in WRONG:
                self.raises("Misfit('web')", shows_parting, web, value)
            for many in (151, 1000):
                self.raises("TooMany('places', 150)", shows_parting, Web(paths(many)), value)


def range_of(many):
    """The first places."""
    return list(range(1, many + 1))


if __name__ == "__main__":
    unittest.main()
