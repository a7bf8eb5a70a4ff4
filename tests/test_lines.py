"""Lines: colours of their places, and walks on them."""

import itertools
import unittest

from tests.slow import bent
from tests.slow_walks import are_calm, is_slow_stray, is_slow_walk, near_on
from tests.test_words import slow_plain, slow_repeat
from tests.tools import ANYTHING, LaneCase
from threelanes.lines import Calm, Stray, is_line_walk, judged_line, line_colours, shows_line
from threelanes.papers import Denial, Paper

GREAT = 10**60
NO_WORDS = [[-1], [True], [0, False], [1.0], ["1"], [None], [[1]], "1", "", None, 3, {1: 2}, {1}, b"1", [1, -GREAT]]


def slow_colours(many):
    """The colours of a line, sign by sign."""
    signs = list(slow_plain(many))
    return tuple(3 if at % 3 == 2 else signs.pop(0) for at in range(many))


class Papers(LaneCase):
    def test_papers(self):
        calm, stray = Calm(), Stray([1, [2]])
        self.assertEqual((calm.word, calm.parts, bool(calm)), ("calm", (), True))
        self.assertEqual((stray.word, stray.parts, stray.walk, bool(stray)), ("stray", ((1, (2,)),), (1, (2,)), False))
        self.assertEqual((Calm.__bases__, Stray.__bases__), ((Paper,), (Denial,)))
        self.assertEqual((Calm(), Stray(walk=1)), (Calm(), Stray(1)))
        self.assertNotEqual(Calm(), Paper("calm"))


class Colours(LaneCase):
    def test_few_and_many(self):
        for many in (*range(40), 400, 1999, 2000):
            self.assertEqual(self.quick(line_colours, many, seconds=1), slow_colours(many))
        self.assertEqual((line_colours(0), line_colours(1), line_colours(2), line_colours(many=3)), ((), (2,), (2, 1), (2, 1, 3)))

    def test_they_are_calm(self):
        for many in (1, 2, 12, 30):
            self.assertIs(are_calm(line_colours(many)), True)
        row = line_colours(2000)
        self.assertEqual(set(row), {0, 1, 2, 3})
        self.assertTrue(all(len(set(row[at: at + 3])) == 3 for at in range(1998)))
        for many in (300, 400):
            self.assertIsNone(slow_repeat(row[:many]))
            self.assertEqual(self.quick(judged_line, row[:many], seconds=2), Calm())

    def test_numbers_that_are_refused(self):
        for value in (-1, 2001, GREAT, -GREAT, True, False, 1.0, "1", None, [1]):
            self.raises("BadNumber('many')", line_colours, value)
        for value in ANYTHING:
            if type(value) is not int:
                self.raises("BadNumber('many')", line_colours, value)


class Walks(LaneCase):
    def test_walks(self):
        for value in ([0], [2], (0, 0, 0), [0, 1, 2], [2, 1, 0], [1, 0, 1, 2, 1, 1], (2,), [0] * 3000, [0, 1] * 2000):
            self.assertIs(is_line_walk(value, 3), True)
        for value in ([], (), [3], [-1], [0, 2], [2, 0], [0, 1, 3], [True], [0, True], [False], [1.0], ["1"], [None],
                      [[0]], [0, [1]], "0", "", 0, None, {0: 1}, {0}, b"\x00", [GREAT]):
            self.assertIs(is_line_walk(value, 3), False, value)
        for value in ANYTHING:
            self.assertIs(is_line_walk(value, GREAT), False)
            self.assertIs(is_line_walk(value, 0), False)

    def test_all_short_walks(self):
        for many in range(5):
            near = near_on(many)
            for length in range(4):
                for value in itertools.product(range(-1, 5), repeat=length):
                    self.assertIs(is_line_walk(value, many), is_slow_walk(near, value))

    def test_lines_of_all_lengths(self):
        self.assertEqual([is_line_walk([0], many) for many in (0, 1, 2, GREAT)], [False, True, True, True])
        self.assertEqual([is_line_walk([many - 1, many - 2], many) for many in (1, 2, GREAT)], [False, True, True])
        self.assertIs(is_line_walk([GREAT], GREAT), False)
        self.assertIs(is_line_walk(many=2, value=[0, 1]), True)
        for value in (-1, -GREAT, True, False, 1.0, "1", None, [1]):
            self.raises("BadNumber('many')", is_line_walk, [0], value)
            self.raises("BadNumber('many')", is_line_walk, None, value)


class Judged(LaneCase):
    def check(self, colours, wanted):
        told = judged_line(colours)
        self.assertEqual(judged_line(list(colours)), told)
        self.assertIs(shows_line(colours, told), True)
        self.assertIs(shows_line(colours, Calm()), wanted)
        if wanted:
            self.assertEqual((type(told), told), (Calm, Calm()))
        else:
            self.assertIs(type(told), Stray)
            self.assertIs(is_slow_stray(near_on(len(colours)), colours, told.walk), True)

    def test_all_short_colours(self):
        counts = {True: 0, False: 0}
        for many, most in ((0, 1), (1, 2), (2, 3), (3, 4), (4, 4), (5, 4), (6, 3)):
            for colours in itertools.product(range(most), repeat=many):
                wanted = are_calm(colours)
                counts[wanted] += 1
                self.check(colours, wanted)
        self.assertGreater(min(counts.values()), 50)

    def test_three_places_of_which_two_are_alike(self):
        for colours in ([0, 1, 0], [0, 0, 1], [0, 1, 1], [0, 1, 2, 3, 4, 3], [0, 1, 2, 0, 3, 0], [5, 5]):
            self.check(colours, False)
        for colours in ([0, 1, 2, 0, 3, 1], [0, 1, 2, 0, 1, 3], [GREAT, 1, 2, GREAT], [7], [7, 8], [0, 1, 2, 3]):
            self.check(colours, True)

    def test_repeats_of_the_word(self):
        rng = self.seeded(171)
        row = list(line_colours(60))
        for half in (3, 4, 5, 9, 20, 30):
            for at in (0, 7, 60 - 2 * half, 60 - half):
                at = max(0, min(at, 60 - half))
                self.check(row[: at + half] + row[at: at + half] + row[at + half:], False)
        self.check(row + row, False)
        self.check([9] + row + row, False)
        self.check(row + row + [9], False)
        self.check(row + [9] + row, True)
        # Six colours one behind another, all unlike, repeat nothing near: only the word has the repeat.
        for half in (3, 6, 40, 100, 199):
            self.check(list(range(half)) * 2, False)
            self.check(list(range(half)) + [GREAT] + list(range(half)), True)
        for _ in range(40):
            bent_row = list(row)
            bent_row[rng.randrange(60)] = rng.randrange(5)
            triples = all(len(set(bent_row[at: at + 3])) == 3 for at in range(58))
            self.check(bent_row, triples and slow_repeat(bent_row) is None)

    def test_long_lines(self):
        row = list(line_colours(400))
        for colours, wanted in ((row, True), (row[:399] + row[397:398], False), (row[:200] * 2, False), (list(range(400)), True),
                                ([7] * 400, False), ([0, 1] * 200, False), ([*range(200), *range(200)], False)):
            self.assertIs(bool(self.quick(judged_line, colours, seconds=2)), wanted)
            self.check(colours, wanted)
        for many in (401, 402, 1000):
            self.raises("TooMany('colours', 400)", judged_line, [0] * many)
            self.raises("TooMany('colours', 400)", shows_line, [0] * many, None)
        for colours in ([0] * 500 + [-1], [True] * 500):
            self.raises("BadColours('colours')", judged_line, colours)
            self.raises("BadColours('colours')", shows_line, colours, None)

    def test_what_is_no_word(self):
        for value in NO_WORDS + [value for value in ANYTHING if value not in ([], ())]:
            self.raises("BadColours('colours')", judged_line, value)
            self.raises("BadColours('colours')", shows_line, value, Calm())
        self.assertEqual((judged_line(colours=[]), judged_line(())), (Calm(), Calm()))


class Shown(LaneCase):
    def test_papers_bent_at_one_place(self):
        counts = {True: 0, False: 0}
        for colours, walk in (([0, 1, 0], (1, 0, 1, 2)), ([0, 1, 2, 0, 1, 2], (0, 1, 2, 3, 4, 5)), ([4, 4], (0, 0, 1, 1)),
                              ([0, 1, 0, 1, 0], (0, 1, 2, 3)), ([0, 1, 2, 1, 0], (1, 2, 2, 3, 2, 2)), ([0, 0, 0], (0, 1))):
            near = near_on(len(colours))
            self.assertIs(shows_line(colours, Stray(walk)), True)
            self.assertIs(shows_line(tuple(colours), Stray(list(walk))), True)
            for other in bent(walk):
                wanted = is_slow_stray(near, colours, other)
                counts[wanted] += 1
                self.assertIs(shows_line(colours, Stray(other)), wanted, other)
        self.assertGreater(min(counts.values()), 8)

    def test_walks_that_show_nothing(self):
        for walk in ([], (), [0], [1], [0, 0], [1, 1, 1, 1], [1, 0, 1], [1, 0, 1, 0], [1, 0, 1, 3], [1, 2, 3, 2], [0, 1, 2],
                     [True, 0, 1, 2], [1, False, 1, 2], [0, 2], [3, 3], [1, 0, 1, 2, 1], None, "1012", 5):
            self.assertIs(shows_line([0, 1, 0], Stray(walk)), False, walk)
        for walk in ([1, 0, 1, 2], [1, 2, 1, 0], (1, 1, 0, 1, 1, 2), [0, 1, 2, 1]):
            self.assertIs(shows_line([0, 1, 0], Stray(walk)), True)
        self.assertIs(shows_line([0, 1, 2], Stray([1, 0, 1, 2])), False)
        self.assertIs(shows_line([], Stray([])), False)

    def test_values_that_are_no_such_papers(self):
        for colours in ([0, 1, 0], [0, 1, 2], []):
            others = [Paper("calm"), Denial("stray", (1, 0, 1, 2)), Denial("calm"), "calm", Stray((1, 0, 1, 2))]
            for value in ANYTHING + others:
                self.assertIs(shows_line(colours, Stray(value)), False)
            for value in ANYTHING + others[:-1] + [(1, 0, 1, 2), ()]:
                self.assertIs(shows_line(colours, value), False)
        self.assertIs(shows_line(value=Calm(), colours=[0, 1, 2]), True)
        self.assertIs(shows_line([0, 1, 0], Calm()), False)

    def test_long_walks(self):
        walk = list(range(200)) * 50
        colours = [0, 1] * 200
        self.assertIs(self.quick(shows_line, colours, Stray([0, 1] * 5000 + [0, 1, 2, 1] * 2500), seconds=2), True)
        self.assertIs(self.quick(shows_line, colours, Stray(walk), seconds=2), False)


if __name__ == "__main__":
    unittest.main()
