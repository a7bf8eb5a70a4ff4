"""Words, repeats, the plain word, words out of lists."""

import itertools
import unittest

from tests.tools import ANYTHING, LaneCase
from threelanes.words import chosen_word, count_words, first_repeat, is_word, plain_word

GREAT = 10**100


def slow_repeat(word):
    """The least repeat of a word; None if it has none."""
    for begin in range(len(word)):
        for half in range(1, (len(word) - begin) // 2 + 1):
            if list(word[begin: begin + half]) == list(word[begin + half: begin + 2 * half]):
                return begin, half
    return None


def slow_plain(many):
    """The plain word, by the figures of the numbers."""
    row = "".join(str(bin(number).count("1") % 2) for number in range(5 * many + 20))
    return tuple(len(ones) for ones in row.split("0")[1:many + 1])


NO_WORDS = [[-1], [True], [0, False], [1.0], ["1"], [None], [[1]], "1", "", None, 3, {1: 2}, {1}, b"1", [1, -GREAT]]


class Words(LaneCase):
    def test_what_is_a_word(self):
        for value in ([], (), [0], (5, 5), [GREAT], [0] * 3000):
            self.assertIs(is_word(value), True)
        for value in NO_WORDS:
            self.assertIs(is_word(value), False)
        for value in ANYTHING:
            self.assertIs(is_word(value), value in ([], ()))
        self.assertIs(is_word(value=[1]), True)

    def test_the_plain_word(self):
        for many in (0, 1, 2, 15, 400, 1999, 2000):
            self.assertEqual(self.quick(plain_word, many, seconds=1), slow_plain(many))
        self.assertEqual((plain_word(0), plain_word(many=1)), ((), (2,)))
        self.assertIsNone(slow_repeat(plain_word(120)))
        self.assertEqual(set(plain_word(2000)), {0, 1, 2})
        for value in (-1, 2001, True, False, 1.0, "1", None, [1], GREAT, -GREAT):
            self.raises("BadNumber('many')", plain_word, value)
        for value in ANYTHING:
            if type(value) is not int:
                self.raises("BadNumber('many')", plain_word, value)


class Repeats(LaneCase):
    def test_all_short_words(self):
        kinds = [0, 0]
        for many in range(8):
            for word in itertools.product(range(3), repeat=many):
                wanted = slow_repeat(word)
                kinds[wanted is None] += 1
                self.assertEqual(first_repeat(word), wanted)
                self.assertEqual(first_repeat([GREAT + sign for sign in word]), wanted)
        self.assertGreater(min(kinds), 50)

    def test_repeats_that_are_put_in(self):
        rng = self.seeded(161)
        plain = list(plain_word(60))
        for _ in range(300):
            at, half = rng.randrange(50), rng.randrange(1, 12)
            word = plain[: at + half] + plain[at: at + half] + plain[at + half:]
            got = first_repeat(word)
            self.assertEqual(got, slow_repeat(word))
            self.assertLessEqual(got, (at, half))
            self.assertIs(type(got), tuple)

    def test_the_least_of_several(self):
        for word, wanted in (
            ([1, 1, 0, 2, 2], (0, 1)), ([0, 1, 0, 1, 1], (0, 2)), ([0, 1, 0, 1, 0, 1, 0, 1], (0, 2)), ([3, 0, 0, 0, 0], (1, 1)),
            ([0, 0, 0, 0], (0, 1)), ([1, 2, 0, 1, 2, 0, 0], (0, 3)), ([2, 1, 0, 1, 0, 1], (1, 2)), ([0, 1, 2, 3, 3], (3, 1)),
            ([5], None), ([0, 1, 0], None), ([0, 1, 2, 0, 1, 3], None), ([GREAT, 1, GREAT, 1], (0, 2)),
        ):
            self.assertEqual(first_repeat(word), wanted)
            self.assertEqual(first_repeat(word=tuple(word)), wanted)

    def test_long_words(self):
        word = list(plain_word(400))
        self.assertIsNone(self.quick(first_repeat, word, seconds=2))
        self.assertEqual(self.quick(first_repeat, word[:200] * 2, seconds=2), (0, 200))
        self.assertEqual(self.quick(first_repeat, [3] + word[:199] + word[:199], seconds=2), slow_repeat([3] + word[:199] * 2))
        self.assertEqual(self.quick(first_repeat, word + word[-1:], seconds=2), (399, 1))
        self.assertIsNone(self.quick(first_repeat, list(range(400)), seconds=2))
        self.assertEqual(self.quick(first_repeat, [7] * 400, seconds=2), (0, 1))
        self.assertIsNone(self.quick(first_repeat, plain_word(2000), seconds=4))

    def test_what_is_no_word(self):
        for value in NO_WORDS:
            self.raises("BadWord('word')", first_repeat, value)
        for value in ANYTHING:
            if value not in ([], ()):
                self.raises("BadWord('word')", first_repeat, value)


class Counts(LaneCase):
    def slow_count(self, lists):
        return sum(slow_repeat(word) is None for word in itertools.product(*lists))

    def test_few_lists(self):
        rng = self.seeded(162)
        for many in range(7):
            for _ in range(12):
                lists = [rng.sample(range(5), rng.randrange(5)) for _ in range(many)]
                self.assertEqual(count_words(lists), self.slow_count(lists))
                self.assertEqual(count_words(tuple(tuple(signs) for signs in lists)), count_words(lists))
        for lists, wanted in (([], 1), ([[]], 0), ([[3], []], 0), ([[3]], 1), ([[3], [3]], 0), ([[3], [4], [3], [4]], 0),
                              ([[GREAT, 0], [GREAT, 1]], 3)):
            self.assertEqual(count_words(lists=lists), wanted)

    def test_eight_lists(self):
        rng = self.seeded(163)
        self.assertEqual([count_words([range_of(3)] * many) for many in range(9)], [1, 3, 6, 12, 18, 30, 42, 60, 78])
        self.assertEqual([count_words([range_of(4)] * many) for many in range(5, 9)], [264, 696, 1848, 4848])
        self.assertEqual(count_words([range_of(2)] * 8), 0)
        for _ in range(3):
            lists = [rng.sample(range(5), 3) for _ in range(8)]
            self.assertEqual(count_words(lists), self.slow_count(lists))
        apart = [[10 * at + sign for sign in range(10)] for at in range(8)]
        self.assertEqual(self.quick(count_words, apart, seconds=2), 10**8)
        self.assertEqual(self.quick(count_words, [list(range(500))] * 2, seconds=2), 500 * 499)
        many = [list(range(at, at + 300)) for at in range(8)]
        self.assertGreater(self.quick(count_words, many, seconds=4), 0)
        self.assertEqual(count_words([range_of(3)] * 7 + [[9]]), 60)

    def test_at_least_twice_as_many(self):
        rng = self.seeded(164)
        for _ in range(10):
            lists = [rng.sample(range(6), 4) for _ in range(8)]
            counts = [count_words(lists[:many]) for many in range(9)]
            self.assertTrue(all(2 * one <= other for one, other in zip(counts, counts[1:])))

    def test_what_is_refused(self):
        wrong = [[[0, 0]], [[-1]], [[True]], [[0, False]], [[1.0]], [["1"]], [[None]], [[[1]]], ["1"], [None], [5], "1",
                 None, 5, {1: [1]}, [{1: 2}], [{1}], [[1], [2, 2]], [b"1"], [""]]
        for lists in wrong:
            self.raises("BadWord('lists')", count_words, lists)
            self.raises("BadWord('lists')", chosen_word, lists)
            if isinstance(lists, list):
                self.raises("BadWord('lists')", count_words, lists + [[1]] * 101)
                self.raises("BadWord('lists')", chosen_word, [[1]] * 101 + lists)
        for value in ANYTHING:
            if value not in ([], (), [[]], [[1]]):
                self.raises("BadWord('lists')", count_words, value)
                self.raises("BadWord('lists')", chosen_word, value)
        for many in (9, 10, 200):
            self.raises("TooMany('lists', 8)", count_words, [range_of(4)] * many)
            self.raises("TooMany('lists', 8)", count_words, [[]] * many)


def range_of(many):
    """The signs from 0 on."""
    return list(range(many))


class Chosen(LaneCase):
    def check(self, lists):
        word = self.quick(chosen_word, lists, seconds=3)
        self.assertIs(type(word), tuple)
        self.assertEqual(len(word), len(lists))
        self.assertTrue(all(sign in signs for sign, signs in zip(word, lists)))
        self.assertIsNone(slow_repeat(word))
        self.assertEqual(chosen_word(tuple(tuple(signs) for signs in lists)), word)

    def test_lists(self):
        rng = self.seeded(165)
        for many in (0, 1, 2, 5, 30, 99, 100):
            for least, signs in ((4, 4), (4, 5), (4, 6), (4, 9), (5, 8), (6, 40), (30, 60)):
                self.check([rng.sample(range(signs), least) for _ in range(many)])
            self.check([range_of(4)] * many)
            self.check([[3, 2, 1, 0], [0, 1, 2, 3], [7, 1, 5, 0]] * (many // 3))
            self.check([[GREAT + 4 * at + sign for sign in range(4)] for at in range(many)])
            self.check([rng.sample(range(GREAT, GREAT + 6), rng.randrange(4, 7)) for _ in range(many)])
        self.assertEqual(chosen_word(lists=[]), ())

    def test_lists_that_lead_astray(self):
        # Each list begins with signs that would soon repeat what stands ahead.
        plain = plain_word(200)
        for half in range(1, 50):
            lists = [[plain[at % half], *[sign for sign in range(5) if sign != plain[at % half]]] for at in range(100)]
            self.check(lists)
            self.check([signs[:4] for signs in lists])

    def test_what_is_refused(self):
        for lists in ([[0, 1, 2]], [[]], [range_of(4), [5, 6, 7]], [range_of(4)] * 100 + [[0]], [[0, 1, 2]] * 101):
            self.raises("Misfit('lists')", chosen_word, lists)
        for many in (101, 200):
            self.raises("TooMany('lists', 100)", chosen_word, [range_of(4)] * many)


if __name__ == "__main__":
    unittest.main()
