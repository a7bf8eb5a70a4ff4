"""What the tests have in common: odd values, shown errors, webs made at random."""

import random
import time
import unittest

from threelanes.errors import LaneError

NESTED = []
for _ in range(29):
    NESTED = [NESTED]

# Values that are neither an integer, a list, a string nor a value of the package.
ODD = [None, True, False, 1.0, 2.5, float("nan"), b"1", {}, {1: 2}, {1, 2}, object(), int, len, ValueError(1)]
NUMBERS = [0, 1, 2, -1, 7, 1001, 10**200, -(10**200)]
LISTS = [[], (), [None], [True], [[]], [[1]], [1, "2"], [{}, []], ["a", ["b"]], (1.0, 2.0), NESTED, [NESTED, 1]]
STRINGS = ["", " ", "1", "abc", "1 2", "- / -", "[1, 2]"]
ANYTHING = ODD + NUMBERS + LISTS + STRINGS


def shown(error):
    """An error as the document writes it."""
    fields = ", ".join(repr(field) for field in vars(error).values())
    return f"{type(error).__name__}({fields})"


def as_lists(value):
    """The value with lists in the place of tuples, all the way in."""
    if isinstance(value, (list, tuple)):
        return [as_lists(item) for item in value]
    return value


def as_tuples(value):
    """The value with tuples in the place of lists, all the way in."""
    if isinstance(value, (list, tuple)):
        return tuple(as_tuples(item) for item in value)
    return value


def random_turns(rng, many, chance):
    """Turns of a web in which each tie stands with a chance, in any order."""
    turns = [[] for _ in range(many)]
    for one in range(many):
        for other in range(one):
            if rng.random() < chance:
                turns[one].append(other + 1)
                turns[other].append(one + 1)
    for turn in turns:
        rng.shuffle(turn)
    return turns


class LaneCase(unittest.TestCase):
    """A test case that asks for errors as the document writes them."""

    def raises(self, wanted, call, *values, **named):
        try:
            got = call(*values, **named)
        except LaneError as error:
            self.assertEqual(shown(error), wanted)
        else:
            self.fail(f"no error but {got!r} instead of {wanted}")

    def quick(self, call, *values, seconds=10):
        begin = time.perf_counter()
        got = call(*values)
        self.assertLess(time.perf_counter() - begin, seconds)
        return got

    def seeded(self, seed):
        return random.Random(seed)
