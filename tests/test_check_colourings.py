"""Whether colours of webs are sound, and whether ways see repeats."""

import itertools
import unittest

from tests.drawn import KNOT, LONE, NEST, SPLIT, all_tied, grown, paths, triangulated
from tests.slow import bent, is_number, is_row
from tests.slow_walks import are_sound, has_repeat_way, is_slow_echo, is_slow_walk, near_in, sees
from tests.tools import ANYTHING, LaneCase, as_lists, random_turns
from threelanes.check_colourings import Echo, Free, Repeat, Sound, judged_walks, judged_ways, shows_walks, shows_ways
from threelanes.colourings import map_colours
from threelanes.lines import line_colours
from threelanes.makes import floor, ring, wheel
from threelanes.papers import Denial, Paper
from threelanes.webs import Web

GREAT = 10**60
LINE = Web([[2], [1, 3], [2, 4], [3]])
WORDS = ([], (), [0], [0, 1, 2, 3], (5,))
NO_WORDS = [[-1], [True, 1, 2, 3], [0, False, 1, 2], [1.0], ["1"], [None] * 4, [[1]], "1234", "", None, 3, {1: 2}, {1}, b"1"]


def marked(colours):
    """A dict of the colours of places."""
    return dict(enumerate(colours, start=1))


def is_right_way(web, colours, most, way):
    """Whether any value is a way of at most twice most places that sees a repeat."""
    if not sees(near_in(web.turns), marked(colours), way):
        return False
    return len(way) <= 2 * most and len(set(way)) == len(way)


def twins(turns):
    """The turns of a web told twice, apart from itself."""
    many = len(turns)
    return as_lists(turns) + [[place + many for place in turn] for turn in turns]


class Papers(LaneCase):
    def test_papers(self):
        for paper, word, parts, base in (
            (Sound(), "sound", (), Paper), (Echo([1, [2]]), "echo", ((1, (2,)),), Denial), (Free(2), "free", (2,), Paper),
            (Repeat([]), "repeat", ((),), Denial),
        ):
            self.assertEqual((paper.word, paper.parts, type(paper).__bases__), (word, parts, (base,)))
            self.assertIs(bool(paper), base is Paper)
        self.assertEqual((Echo(walk=1).walk, Free(most=2).most, Repeat(way=[3]).way), (1, 2, (3,)))
        self.assertEqual((Sound(), Echo([1]), Free(1), Repeat([1])), (Sound(), Echo((1,)), Free(1), Repeat((1,))))
        self.assertNotEqual(Echo([1]), Repeat([1]))


class Walks(LaneCase):
    def check(self, web, colours, wanted):
        told = self.quick(judged_walks, web, colours, seconds=3)
        self.assertEqual(judged_walks(web, tuple(colours)), told)
        self.assertIs(shows_walks(web, colours, told), True)
        self.assertIs(shows_walks(web, colours, Sound()), wanted)
        if wanted:
            self.assertEqual((type(told), told), (Sound, Sound()))
        else:
            self.assertIs(type(told), Echo)
            self.assertIs(is_slow_echo(near_in(web.turns), marked(colours), told.walk), True)

    def test_small_webs(self):
        counts = {True: 0, False: 0}
        rng = self.seeded(191)
        for many in range(1, 9):
            for chance in (0, 0.2, 0.4, 0.8, 1):
                for most in (1, 2, 3, many, 2 * many):
                    web = Web(random_turns(rng, many, chance))
                    colours = [rng.randrange(most) for _ in range(many)]
                    wanted = are_sound(near_in(web.turns), marked(colours))
                    counts[wanted] += 1
                    self.check(web, colours, wanted)
        self.assertGreater(min(counts.values()), 30)

    def test_all_walks_of_small_webs(self):
        counts = {True: 0, False: 0}
        for web in (LINE, ring(4), wheel(3), SPLIT, KNOT, Web([[2], [1], []])):
            near = near_in(web.turns)
            for colours in itertools.product(range(3), repeat=web.many):
                walks = itertools.chain(*[itertools.product(near, repeat=length) for length in (2, 4)])
                short = any(is_slow_echo(near, marked(colours), walk) for walk in walks)
                wanted = are_sound(near, marked(colours))
                self.assertFalse(short and wanted)
                counts[wanted] += 1
                self.check(web, colours, wanted)
        self.assertGreater(min(counts.values()), 20)

    def test_echoes_that_are_long(self):
        many = 20
        colours = list(range(many // 2)) * 2
        self.check(Web(paths(many)), colours, False)
        self.assertEqual(len(judged_walks(Web(paths(many)), colours).walk), many)
        self.check(ring(many), colours, False)
        self.check(Web(twins(paths(many))), list(range(many)) * 2, True)
        self.check(ring(many), list(range(many - 1)) + [0], False)
        self.check(Web(paths(many)), [0, *range(1, many - 1), 0], True)

    def test_colours_alike_unlike_and_few(self):
        for web in (LINE, floor(4, 4), wheel(8), NEST, KNOT, Web(all_tied(7)), LONE, SPLIT):
            self.check(web, [3] * web.many, False)
            self.check(web, [GREAT + at for at in range(web.many)], True)
        for web in (Web([[]]), Web([[]] * 40)):
            self.check(web, [0] * web.many, True)
        self.check(Web([[2], [1]]), [GREAT, GREAT], False)

    def test_sound_colours_of_flat_webs(self):
        rng = self.seeded(192)
        for web in (floor(8, 5), wheel(39), Web(triangulated(rng, 40, 60)), Web(grown(rng, 40, 12)[0]), ring(40)):
            colours = map_colours(web)
            self.check(web, colours, True)
            for _ in range(6):
                other = list(colours)
                other[rng.randrange(40)] = other[rng.randrange(40)]
                self.check(web, other, are_sound(near_in(web.turns), marked(other)))
        for many in (1, 2, 3, 12, 40):
            self.check(Web(paths(many)), line_colours(many), True)

    def test_forty_places(self):
        rng = self.seeded(193)
        for chance in (0, 0.03, 0.06, 0.1, 0.3, 0.9, 1):
            web = Web(random_turns(rng, 40, chance))
            for most in (1, 2, 5, 20, 80):
                colours = [rng.randrange(most) for _ in range(40)]
                self.check(web, colours, are_sound(near_in(web.turns), marked(colours)) if most > 1 else not web.ties)
        self.check(Web(all_tied(40)), list(range(40)), True)
        stars = Web([turn for at in range(8) for turn in [[5 * at + k for k in (2, 3, 4, 5)]] + [[5 * at + 1]] * 4])
        self.check(stars, [0, 1, 1, 1, 1] * 8, are_sound(near_in(stars.turns), marked([0, 1, 1, 1, 1] * 8)))

    def test_bounds(self):
        for many in (41, 42, 1000):
            for call in (judged_walks, shows_walks):
                values = (None,) if call is shows_walks else ()
                self.raises("TooMany('places', 40)", call, Web(paths(many)), [0] * many, *values)
                self.raises("Misfit('colours')", call, Web(paths(many)), [0] * (many - 1), *values)

    def test_what_is_refused(self):
        for value in ANYTHING + NO_WORDS:
            self.raises("BadWeb('web')", judged_walks, value, value)
            self.raises("BadWeb('web')", shows_walks, value, value, value)
            if value not in WORDS:
                self.raises("BadColours('colours')", judged_walks, LINE, value)
                self.raises("BadColours('colours')", judged_walks, Web(paths(41)), value)
                self.raises("BadColours('colours')", shows_walks, LINE, value, Sound())
        for many in (0, 1, 3, 5, 400):
            self.raises("Misfit('colours')", judged_walks, LINE, [0] * many)
            self.raises("Misfit('colours')", shows_walks, LINE, [0] * many, None)

    def test_papers_bent_at_one_place(self):
        counts = {True: 0, False: 0}
        for web, colours, walk in (
            (LINE, [0, 1, 0, 1], (1, 2, 3, 4)), (ring(3), [0, 1, 0], (1, 3)), (ring(6), [0, 1, 2, 0, 1, 2], (1, 1, 2, 3, 4, 4, 5, 6)),
            (wheel(4), [5, 0, 1, 0, 1], (2, 3, 4, 5)),
        ):
            near = near_in(web.turns)
            self.assertIs(shows_walks(web, colours, Echo(walk)), True)
            self.assertIs(shows_walks(web, tuple(colours), Echo(list(walk))), True)
            for other in bent(walk):
                wanted = is_slow_echo(near, marked(colours), other)
                counts[wanted] += 1
                self.assertIs(shows_walks(web, colours, Echo(other)), wanted, other)
        self.assertGreater(min(counts.values()), 4)

    def test_all_short_walks(self):
        for web, colours in ((LINE, [0, 1, 0, 1]), (ring(3), [0, 1, 0]), (SPLIT, [0, 0, 1, 2]), (LINE, [0, 1, 2, 0])):
            near = near_in(web.turns)
            for length in range(5):
                for walk in itertools.product(range(web.many + 2), repeat=length):
                    wanted = is_slow_echo(near, marked(colours), walk)
                    self.assertIs(shows_walks(web, colours, Echo(walk)), wanted)

    def test_values_that_are_no_such_papers(self):
        others = [Paper("sound"), Denial("echo", (1, 2, 3, 4)), Free(2), Repeat((1, 2, 3, 4)), (1, 2, 3, 4), "sound"]
        for colours in ([0, 1, 0, 1], [0, 1, 2, 3]):
            for value in ANYTHING + others:
                self.assertIs(shows_walks(LINE, colours, value), False)
                if value != (1, 2, 3, 4):
                    self.assertIs(shows_walks(LINE, colours, Echo(value)), False)
        self.assertIs(shows_walks(value=Sound(), colours=[0, 1, 2, 3], web=LINE), True)
        self.assertEqual(judged_walks(colours=[0, 1, 2, 3], web=LINE), Sound())


class Ways(LaneCase):
    def check(self, web, colours, most, wanted):
        told = self.quick(judged_ways, web, colours, most, seconds=3)
        self.assertEqual(judged_ways(web, tuple(colours), most), told)
        self.assertIs(shows_ways(web, colours, most, told), True)
        self.assertIs(shows_ways(web, colours, most, Free(most)), wanted)
        if wanted:
            self.assertEqual((type(told), told), (Free, Free(most)))
        else:
            self.assertIs(type(told), Repeat)
            self.assertIs(is_right_way(web, colours, most, told.way), True)

    def test_small_webs(self):
        counts = {True: 0, False: 0}
        rng = self.seeded(194)
        for many in range(1, 9):
            for chance in (0, 0.2, 0.4, 0.7):
                for shades in (2, 3, many, 2 * many):
                    web = Web(random_turns(rng, many, chance))
                    colours = [rng.randrange(shades) for _ in range(many)]
                    for most in (1, 2, 3, 4):
                        wanted = not has_repeat_way(web.turns, colours, most)
                        counts[wanted] += 1
                        self.check(web, colours, most, wanted)
        self.assertGreater(min(counts.values()), 50)

    def test_repeats_of_just_one_length(self):
        for half in (1, 2, 3, 4, 5):
            colours = list(range(half)) * 2
            for most in (1, 2, 3, 4):
                self.check(Web(paths(2 * half)), colours, most, half > most)
                self.check(Web(paths(24)), list(range(10, 34 - 2 * half)) + colours, most, half > most)

    def test_walks_that_are_no_ways(self):
        # The walk 2 1 2 3 sees 1 0 1 0, but comes to 2 twice.
        self.check(Web(paths(3)), [0, 1, 0], 4, True)
        self.check(Web(paths(4)), [0, 1, 0, 1], 4, False)
        self.check(wheel(3), [0, 1, 2, 3], 4, True)
        star = Web([list(range(2, 25))] + [[1]] * 23)
        self.check(star, [0] + [1] * 23, 4, True)
        self.check(star, [0] + [1] * 22 + [0], 4, False)

    def test_dead_ends_that_are_met_first(self):
        # The only way that sees a repeat is 1 to 6, or 6 to 1; from each of its halves' ends a leaf stands first.
        web = Web([[7, 2], [1, 3], [10, 2, 4], [8, 3, 5], [4, 6], [9, 5], [1], [4], [6], [3]])
        colours = [0, 1, 2, 0, 1, 2, 1, 1, 1, 1]
        for most in (1, 2, 3, 4):
            self.assertIs(has_repeat_way(web.turns, colours, most), most > 2)
            self.check(web, colours, most, most < 3)

    def test_trees_made_at_random(self):
        rng = self.seeded(196)
        counts = {True: 0, False: 0}
        for many in (6, 8, 10, 12, 14):
            for shades in (3, 4, 5):
                for _ in range(12):
                    web = Web(grown(rng, many, rng.randrange(3))[0])
                    colours = [rng.randrange(shades) for _ in range(many)]
                    for most in (2, 3, 4):
                        wanted = not has_repeat_way(web.turns, colours, most)
                        counts[wanted] += 1
                        self.check(web, colours, most, wanted)
        self.assertGreater(min(counts.values()), 20)

    def test_colours_alike_unlike_and_few(self):
        for web in (LINE, floor(4, 6), wheel(23), NEST, KNOT, Web(all_tied(24)), LONE, SPLIT):
            for most in (1, 2, 3, 4):
                self.check(web, [3] * web.many, most, False)
                self.check(web, [GREAT + at for at in range(web.many)], most, True)
                self.check(Web([[]] * web.many), [3] * web.many, most, True)

    def test_twenty_four_places(self):
        rng = self.seeded(195)
        for web in (floor(6, 4), floor(12, 2), wheel(23), ring(24), Web(triangulated(rng, 24, 40)), Web(paths(24))):
            for most in (1, 2, 3, 4):
                self.check(web, map_colours(web), most, True)
        for chance in (0.05, 0.1, 0.2, 0.5, 1):
            web = Web(random_turns(rng, 24, chance))
            for shades in (2, 4, 8, 16, 24):
                colours = [rng.randrange(shades) for _ in range(24)]
                told = self.quick(judged_ways, web, colours, 4, seconds=3)
                self.assertIs(bool(told) or is_right_way(web, colours, 4, told.way), True)
                if chance < 0.15:
                    self.assertIs(bool(told), not has_repeat_way(web.turns, colours, 4))
        for side in (4, 6, 8):
            # Many rows of pairs are alike in colour here, and none of them is joined to a way.
            rest = list(range(side + 1, 13))
            half = [rest] * side + [[*range(1, side + 1), *[other for other in rest if other != place]] for place in rest]
            self.check(Web(twins(half)), ([0] * side + rest) * 2, 4, True)

    def test_bounds(self):
        for many in (25, 26, 41, 1000):
            for call in (judged_ways, shows_ways):
                values = (None,) if call is shows_ways else ()
                self.raises("TooMany('places', 24)", call, Web(paths(many)), [0] * many, 2, *values)
                self.raises("Misfit('colours')", call, Web(paths(many)), [0] * (many + 1), 2, *values)
                self.raises("BadNumber('most')", call, Web(paths(many)), [0] * (many + 1), 5, *values)
                self.raises("BadColours('colours')", call, Web(paths(many)), [-1] * (many + 1), 5, *values)

    def test_what_is_refused(self):
        for value in ANYTHING + NO_WORDS:
            self.raises("BadWeb('web')", judged_ways, value, value, value)
            self.raises("BadWeb('web')", shows_ways, value, value, value, value)
            if value not in WORDS:
                self.raises("BadColours('colours')", judged_ways, LINE, value, value)
                self.raises("BadColours('colours')", shows_ways, LINE, value, value, value)
            if not is_number(value) or not 1 <= value <= 4:
                self.raises("BadNumber('most')", judged_ways, LINE, [0, 1, 2, 3], value)
                self.raises("BadNumber('most')", shows_ways, LINE, [0, 1], value, value)
        for most in (0, 5, -1, 7, True, False, 1.0, "1", None, [1], GREAT):
            self.raises("BadNumber('most')", judged_ways, LINE, [0, 1, 2, 3], most)
        for many in (0, 1, 3, 5, 400):
            self.raises("Misfit('colours')", judged_ways, LINE, [0] * many, 2)
            self.raises("Misfit('colours')", shows_ways, LINE, [0] * many, 2, None)

    def test_papers_bent_at_one_place(self):
        counts = {True: 0, False: 0}
        for web, colours, way in (
            (LINE, [0, 1, 0, 1], (4, 3, 2, 1)), (ring(3), [0, 1, 0], (1, 3)), (ring(6), [0, 1, 2, 0, 1, 2], (2, 3, 4, 5, 6, 1)),
            (wheel(8), [7, 0, 1, 0, 1, 0, 1, 0, 1], (2, 3, 4, 5)),
        ):
            self.assertIs(shows_ways(web, colours, 4, Repeat(list(way))), True)
            for other in bent(way):
                for most in (1, 2, 3, 4):
                    wanted = is_right_way(web, colours, most, other)
                    counts[wanted] += 1
                    self.assertIs(shows_ways(web, colours, most, Repeat(other)), wanted, other)
        self.assertGreater(min(counts.values()), 8)

    def test_all_short_ways(self):
        for web, colours in ((LINE, [0, 1, 0, 1]), (ring(3), [0, 1, 0]), (SPLIT, [0, 0, 1, 2]), (LINE, [0, 0, 1, 2])):
            for length in range(5):
                for way in itertools.product(range(web.many + 2), repeat=length):
                    for most in (1, 2):
                        wanted = is_slow_walk(near_in(web.turns), way) and is_right_way(web, colours, most, way)
                        self.assertIs(shows_ways(web, colours, most, Repeat(way)), wanted)

    def test_how_much_is_free(self):
        colours = [0, 1, 2, 0]
        for value in ANYTHING + [1, 2, 3, 4, 5]:
            for most in (1, 2, 3, 4):
                self.assertIs(shows_ways(LINE, colours, most, Free(value)), is_number(value) and value == most)
                self.assertIs(shows_ways(LINE, [0, 0, 1, 2], most, Free(value)), False)

    def test_values_that_are_no_such_papers(self):
        others = [Paper("free", 2), Denial("repeat", (1, 2, 3, 4)), Sound(), Echo((1, 2, 3, 4)), (1, 2, 3, 4), "free"]
        for colours in ([0, 1, 0, 1], [0, 1, 2, 3]):
            for value in ANYTHING + others:
                self.assertIs(shows_ways(LINE, colours, 2, value), False)
                if not is_row(value) or len(value) != 4:
                    self.assertIs(shows_ways(LINE, colours, 2, Repeat(value)), False)
        self.assertIs(shows_ways(value=Free(1), most=1, colours=[0, 1, 2, 3], web=LINE), True)
        self.assertEqual(judged_ways(most=1, colours=[0, 1, 2, 3], web=LINE), Free(1))


if __name__ == "__main__":
    unittest.main()
