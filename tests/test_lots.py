"""Greatest untied lots, shares, and lots that part webs."""

import itertools
import unittest

from tests.drawn import FOUR, HANDLE, KNOT, LONE, NEST, PATH, SPLIT, all_tied, grown, nested, paths, triangulated
from tests.slow_lots import are_slow_shares, greatest_size, is_slow_lot, is_slow_untied, most_places, parts_web, slow_rests
from tests.slow_lots import slow_map_layers
from tests.tools import ANYTHING, LaneCase, as_lists, random_turns
from threelanes.layers import map_layers
from threelanes.lots import Best, Parting, Shares, best_lot, most_to_part, parting_of, rests_without, shares_of
from threelanes.makes import floor, ring, wheel
from threelanes.papers import Paper
from threelanes.untied import greatest_untied
from threelanes.webs import Web, mirrored

GREAT = 10**60


def star(many):
    """A place that is tied to all others."""
    return Web([list(range(2, many + 1))] + [[1]] * (many - 1))


def sides(left, right, gap=0):
    """Two sides of a web: each place of one is tied to all of the other one, but those that the gap leaves out."""
    far = [[left + at for at in range(1, right + 1) if not gap or (place + at) % gap] for place in range(1, left + 1)]
    return Web(far + [[place for place in range(1, left + 1) if left + at in far[place - 1]] for at in range(1, right + 1)])


FLAT = (
    Web([[]]), Web([[2], [1]]), PATH, Web([[2, 3], [3, 1], [1, 2]]), FOUR, NEST, Web(paths(9)), star(8), ring(3), ring(10),
    ring(11), wheel(3), wheel(9), floor(2, 2), floor(4, 4), floor(7, 3), floor(1, 6), floor(5, 6),
)


class Papers(LaneCase):
    def test_papers(self):
        best, shares, parting = Best([2, [1]]), Shares([[1], ()]), Parting(lot=[3])
        self.assertEqual((best.word, best.parts, best.lot), ("best", ((2, (1,)),), (2, (1,))))
        self.assertEqual((shares.word, shares.parts, shares.lots), ("shares", (((1,), ()),), ((1,), ())))
        self.assertEqual((parting.word, parting.parts, parting.lot), ("parting", ((3,),), (3,)))
        for paper in (best, shares, parting):
            self.assertEqual((type(paper).__bases__, bool(paper)), ((Paper,), True))
        self.assertEqual((Best(lot=1), Shares(lots=2), Parting(3)), (Best(1), Shares(2), Parting(lot=3)))
        self.assertNotEqual(Best([1]), Parting([1]))


class BestLots(LaneCase):
    def check(self, web):
        told = self.quick(best_lot, web, seconds=2)
        self.assertIs(type(told), Best)
        self.assertEqual(told.lot, tuple(sorted(told.lot)))
        self.assertIs(is_slow_lot(web, told.lot) and is_slow_untied(web, told.lot), True)
        self.assertEqual(len(told.lot), greatest_size(web, range(1, web.many + 1)))
        self.assertEqual(best_lot(Web(as_lists(web.turns))), told)

    def test_all_lots_of_small_webs(self):
        rng = self.seeded(221)
        for many in range(1, 8):
            for chance in (0, 0.2, 0.5, 0.8, 1):
                web = Web(random_turns(rng, many, chance))
                self.check(web)
                lots = [lot for size in range(many + 1) for lot in itertools.combinations(range(1, many + 1), size)]
                greatest = max(len(lot) for lot in lots if is_slow_untied(web, lot))
                self.assertEqual(len(best_lot(web).lot), greatest)

    def test_webs_that_are_made(self):
        for web in (*FLAT[:-1], KNOT, SPLIT, LONE, HANDLE, Web([[]] * 24), Web(all_tied(24)), star(24), wheel(23), ring(24), floor(6, 4)):
            self.check(web)
        for many, wanted in ((3, 1), (4, 2), (5, 2), (23, 11), (24, 12)):
            self.assertEqual(len(best_lot(ring(many)).lot), wanted)
            self.assertEqual(len(best_lot(wheel(many)).lot) if many < 24 else 12, many // 2)
        self.assertEqual((best_lot(star(24)).lot, best_lot(Web([[]] * 24)).lot), (tuple(range(2, 25)), tuple(range(1, 25))))
        self.assertEqual(best_lot(web=Web([[]])), Best([1]))

    def test_webs_of_24_places(self):
        rng = self.seeded(222)
        for chance in (0.02, 0.05, 0.1, 0.15, 0.2, 0.3, 0.5, 0.8):
            for many in (23, 24):
                self.check(Web(random_turns(rng, many, chance)))
        self.check(Web(triangulated(rng, 24, 40)))
        for left in range(1, 24):
            self.check(sides(left, 24 - left))
            self.check(sides(left, 24 - left, 3))
        self.check(sides(12, 12, 2))

    def test_what_is_refused(self):
        for value in ANYTHING:
            self.raises("BadWeb('web')", best_lot, value)
        for web in (Web([[]] * 25), Web(paths(25)), Web(all_tied(25)), Web(paths(1000))):
            self.raises("TooMany('places', 24)", best_lot, web)


class Untied(LaneCase):
    def test_some_places(self):
        rng = self.seeded(223)
        for many in (1, 4, 9, 14):
            for chance in (0.1, 0.3, 0.6):
                web = Web(random_turns(rng, many, chance))
                places = rng.sample(range(1, many + 1), rng.randrange(many + 1))
                told = greatest_untied(web, places)
                self.assertEqual((len(told), set(told) <= set(places)), (greatest_size(web, places), True))
                self.assertIs(is_slow_untied(web, told), True)
        self.assertEqual(greatest_untied(PATH, []), ())


class SharesOf(LaneCase):
    def check(self, web):
        self.assertEqual(list(map_layers(web)), slow_map_layers(web))
        for k in (2, 3):
            told = self.quick(shares_of, web, k, seconds=2)
            self.assertIs(type(told), Shares)
            self.assertEqual(told.lots, tuple(tuple(sorted(lot)) for lot in told.lots))
            self.assertIs(are_slow_shares(web, k, told.lots), True)
            self.assertEqual(shares_of(Web(as_lists(web.turns)), k), told)
            if web.many <= 24:
                best = len(best_lot(web).lot)
                self.assertGreaterEqual(sum(len(lot) for lot in told.lots), (k - 1) * best)
                self.assertGreaterEqual(k * max(len(lot) for lot in told.lots), (k - 1) * best)

    def test_few_places(self):
        for turns in ([[]], [[2], [1]], [[2, 3], [3, 1], [1, 2]], [[2], [1, 3], [2]], [[2, 3], [1], [1]]):
            self.check(Web(turns))
        self.assertEqual(shares_of(Web([[]]), 2), Shares([[], [1]]))
        self.assertEqual(shares_of(k=3, web=Web([[]])), Shares([[], [1], [1]]))
        self.assertEqual([len(lot) for lot in shares_of(Web([[2], [1]]), 3).lots], [0, 1, 1])

    def test_webs_that_are_made(self):
        for web in FLAT:
            self.check(web)
            self.check(mirrored(web))

    def test_webs_made_at_random(self):
        rng = self.seeded(224)
        for many in (3, 4, 5, 7, 10, 14, 19, 24):
            for web in (Web(grown(rng, many, rng.randrange(many))[0]), Web(triangulated(rng, many, many)), Web(nested(many))):
                self.check(web)

    def test_webs_of_forty_places(self):
        rng = self.seeded(225)
        for turns in (triangulated(rng, 40, 60), triangulated(rng, 40), nested(40), nested(40, 0), paths(40), grown(rng, 40, 15)[0]):
            self.check(Web(turns))
        for web in (floor(8, 5), floor(20, 2), wheel(39), ring(40), star(40)):
            self.check(web)

    def test_webs_of_150_places(self):
        rng = self.seeded(226)
        for web in (Web(triangulated(rng, 150, 200)), Web(nested(150)), floor(15, 10), floor(50, 3), wheel(149), Web(paths(150))):
            for k in (2, 3):
                told = self.quick(shares_of, web, k, seconds=3)
                self.assertEqual(len(told.lots), k)
                self.assertTrue(all(is_slow_untied(web, lot) for lot in told.lots))

    def test_what_is_refused(self):
        for value in ANYTHING:
            self.raises("BadWeb('web')", shares_of, value, value)
            for web in (PATH, SPLIT, KNOT, Web(paths(151))):
                if type(value) is not int or not 2 <= value <= 3:
                    self.raises("BadNumber('k')", shares_of, web, value)
        for k in (0, 1, 4, -2, True, False, 2.0, "2", None, [2], GREAT):
            self.raises("BadNumber('k')", shares_of, PATH, k)
            self.raises("BadNumber('k')", shares_of, SPLIT, k)
        for k in (2, 3):
            for web in (Web([[], []]), SPLIT, KNOT, LONE, HANDLE, Web(all_tied(5)), Web([[]] * 151)):
                self.raises("Misfit('web')", shares_of, web, k)
            for many in (151, 1000):
                self.raises("TooMany('places', 150)", shares_of, Web(paths(many)), k)


class PartingOf(LaneCase):
    def check(self, web):
        told = self.quick(parting_of, web, seconds=2)
        self.assertIs(type(told), Parting)
        self.assertEqual(told.lot, tuple(sorted(told.lot)))
        self.assertIs(parts_web(web, told.lot), True)
        self.assertLessEqual(len(told.lot), most_places(web))
        self.assertEqual(parting_of(Web(as_lists(web.turns))), told)

    def test_webs_that_are_made(self):
        for web in FLAT:
            self.check(web)
        self.assertEqual(parting_of(web=Web([[]])), Parting([1]))

    def test_how_many_places_at_most(self):
        for web in (*FLAT, Web(nested(150)), Web(nested(145)), Web(nested(150, 0)), Web(nested(40)), floor(15, 10), wheel(149)):
            self.assertEqual(most_to_part(web), most_places(web))
        self.assertEqual([most_to_part(web) for web in (Web([[]]), floor(2, 2), wheel(149))], [12, 24, 24])
        self.assertEqual([most_to_part(Web(nested(many))) for many in (143, 144, 145, 150)], [300, 300, 326, 326])

    def test_lines_stars_floors_and_wheels(self):
        for many in (4, 13, 40, 60, 150):
            for web in (Web(paths(many)), star(many), ring(many), wheel(many - 1), floor(many // 2, 2)):
                self.check(web)
        for web in (floor(8, 5), floor(10, 6), floor(15, 10), floor(12, 12)):
            self.check(web)

    def test_webs_made_at_random(self):
        rng = self.seeded(227)
        for many in (3, 5, 9, 16, 25, 40, 60, 150):
            for turns in (triangulated(rng, many, many), triangulated(rng, many), nested(many), nested(many, 0), grown(rng, many, 3)[0]):
                self.check(Web(turns))

    def test_what_is_refused(self):
        for value in ANYTHING:
            self.raises("BadWeb('web')", parting_of, value)
        for web in (Web([[], []]), SPLIT, KNOT, LONE, HANDLE, Web(all_tied(5)), Web([[]] * 151)):
            self.raises("Misfit('web')", parting_of, web)
        for many in (151, 1000):
            self.raises("TooMany('places', 150)", parting_of, Web(paths(many)))


class Rests(LaneCase):
    def test_none_all_and_some_places(self):
        rng = self.seeded(228)
        webs = [*FLAT, KNOT, SPLIT, LONE, HANDLE, Web([[], []]), Web([[]] * 5), Web(all_tied(5))]
        webs += [Web(random_turns(rng, many, chance)) for many in (6, 12, 20) for chance in (0, 0.1, 0.2, 0.5)]
        for web in webs:
            places = list(range(1, web.many + 1))
            self.assertEqual(rests_without(web, places), ())
            self.assertEqual(rests_without(web, places[::-1]), ())
            for lot in ([], [1], [web.many], *[rng.sample(places, rng.randrange(web.many + 1)) for _ in range(6)]):
                told = rests_without(web, lot)
                self.assertEqual(told, slow_rests(web, lot))
                self.assertEqual(rests_without(web, tuple(lot[::-1])), told)
        self.assertEqual(rests_without(lot=[2], web=PATH), ((1,), (3,)))

    def test_great_webs(self):
        line = Web(paths(1000))
        self.assertEqual(self.quick(rests_without, line, [], seconds=2), (tuple(range(1, 1001)),))
        told = self.quick(rests_without, line, list(range(2, 1001, 2)), seconds=2)
        self.assertEqual(told, tuple((place,) for place in range(1, 1001, 2)))
        self.assertEqual(self.quick(rests_without, Web(all_tied(400)), [5], seconds=2), ((*range(1, 5), *range(6, 401)),))

    def test_lots_that_are_none(self):
        for value in ANYTHING:
            self.raises("BadWeb('web')", rests_without, value, value)
            if value not in ([], ()):
                self.raises("BadLot('lot')", rests_without, Web([[]]), value)
        for lot in ([0], [-1], [4], [1, 1], [1, 2, 3, 4], [True], [1.0], ["1"], [None], [[1]], [1, [2]], "1", 1, {1: 1}, {1}, [GREAT]):
            self.raises("BadLot('lot')", rests_without, PATH, lot)


if __name__ == "__main__":
    unittest.main()
