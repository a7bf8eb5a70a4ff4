"""Webs: places, ties, turns, their texts, and the webs that are made of them."""

import unittest

from tests.tools import ANYTHING, LISTS, ODD, STRINGS, LaneCase, as_lists, as_tuples, random_turns
from threelanes.errors import BadText
from threelanes.webs import Web, mirrored, renamed


def path_turns(many):
    """The turns of so many places in a row."""
    return [[other for other in (at - 1, at + 1) if 1 <= other <= many] for at in range(1, many + 1)]


def are_turns(turns):
    """Whether lists of integers are turns, told place by place."""
    many = len(turns)
    for place in range(1, many + 1):
        turn = turns[place - 1]
        if len(set(turn)) != len(turn) or place in turn:
            return False
        for other in turn:
            if not 1 <= other <= many or place not in turns[other - 1]:
                return False
    return 1 <= many <= 1000


def begins_text(items):
    """Whether some text of a thousand free places could begin with the items."""
    lists = [[]]
    for item in items:
        if item == "/":
            lists.append([])
        else:
            lists[-1].append(item)
    if len(lists) > 1000 or any(not own for own in lists[:-1]):
        return False
    for at, own in enumerate(lists):
        if own == ["-"]:
            continue
        numbers = [item for item in own if item in NUMERALS and item != str(at + 1)]
        if numbers != own or len(set(own)) != len(own):
            return False
    return True


def wanted_item(text):
    """None for a text of a web, or else the index of the item that cannot stand."""
    items = text.split(" ")
    for index in range(len(items)):
        if not begins_text(items[: index + 1]):
            return index
    if items[-1] == "/":
        return len(items)
    turns = [[] if own == "-" else [int(item) for item in own.split(" ")] for own in text.split(" / ")]
    return None if are_turns(turns) else len(items) - 1


NUMERALS = {str(number) for number in range(1, 1001)}


class Turns(LaneCase):
    def test_attributes(self):
        web = Web([[3, 2], (1, 3), [2, 1], []])
        self.assertEqual(web.many, 4)
        self.assertEqual(web.turns, ((3, 2), (1, 3), (2, 1), ()))
        self.assertEqual(web.ties, ((1, 2), (1, 3), (2, 3)))
        self.assertEqual(Web(turns=[[]]).ties, ())

    def test_ties_ascend(self):
        rng = self.seeded(4)
        for many in range(1, 9):
            turns = random_turns(rng, many, 0.6)
            web = Web(turns)
            wanted = sorted((one, other) for one in range(1, many + 1) for other in turns[one - 1] if one < other)
            self.assertEqual(web.ties, tuple(wanted))
            self.assertEqual(web.turns, as_tuples(turns))

    def test_what_is_passed_is_copied(self):
        turns = [[2], [1]]
        web = Web(turns)
        turns[0].append(3)
        turns.append([1])
        self.assertEqual((web.turns, web.many, web.ties), (((2,), (1,)), 2, ((1, 2),)))

    def test_bounds(self):
        self.assertEqual(Web([[]]).many, 1)
        self.assertEqual(Web([[] for _ in range(1000)]).many, 1000)
        self.assertEqual(len(Web(path_turns(1000)).ties), 999)
        self.raises("BadWeb('turns')", Web, [])
        self.raises("BadWeb('turns')", Web, ())
        self.raises("BadWeb('turns')", Web, [[] for _ in range(1001)])
        self.raises("BadWeb('turns')", Web, path_turns(1001))

    def test_wrong_turns(self):
        for turns in (
            [[1]],
            [[2]],
            [[0]],
            [[-1], []],
            [[2], []],
            [[], [1]],
            [[2, 2], [1]],
            [[2, 2], [1, 1]],
            [[2], [1, 3]],
            [[2, 3], [1], []],
            [[2, 1], [1]],
            [[2], [True]],
            [[2.0], [1]],
            [["2"], [1]],
            [[2], "1"],
            [{2: 1}, {1: 2}],
            [[2], [1], None],
            [[[2]], [1]],
            ["", ""],
            "- / -",
        ):
            self.raises("BadWeb('turns')", Web, turns)

    def test_any_values(self):
        for value in ODD + STRINGS + [0, 1, -1]:
            self.raises("BadWeb('turns')", Web, value)
            self.raises("BadWeb('turns')", Web, [[2], value])
            self.raises("BadWeb('turns')", Web, [[2, value], [1]])
        for value in LISTS[2:]:
            self.raises("BadWeb('turns')", Web, [[2], [1], value, value])

    def test_around(self):
        web = Web([[2, 4], [3, 1], [4, 2], [1, 3], []])
        self.assertEqual([web.around(place) for place in range(1, 6)], [(2, 4), (3, 1), (4, 2), (1, 3), ()])
        self.assertEqual(web.around(place=2), (3, 1))
        for value in ODD + LISTS + STRINGS + [0, 6, -1, 10**30]:
            self.raises("BadNumber('place')", web.around, value)

    def test_tied(self):
        web = Web([[2, 4], [3, 1], [4, 2], [1, 3], []])
        for one in range(1, 6):
            for other in range(1, 6):
                wanted = (min(one, other), max(one, other)) in web.ties
                self.assertIs(web.tied(one, other), wanted)
        self.assertIs(web.tied(other=2, one=1), True)
        for value in ODD + LISTS + STRINGS + [0, 6, -1, 10**30]:
            self.raises("BadNumber('one')", web.tied, value, 1)
            self.raises("BadNumber('one')", web.tied, value, value)
            self.raises("BadNumber('other')", web.tied, 1, value)

    def test_equality(self):
        turns = [[2, 3, 4], [1], [1], [1]]
        self.assertTrue(Web(turns) == Web(as_tuples(turns)))
        self.assertFalse(Web(turns) != Web(as_tuples(turns)))
        self.assertFalse(Web(turns) == Web([[3, 4, 2], [1], [1], [1]]))
        self.assertFalse(Web([[]]) == Web([[], []]))
        for value in ANYTHING + [((2,), (1,)), "2 / 1"]:
            self.assertIs(Web([[2], [1]]) == value, False)

    def test_methods_stand_in_the_class(self):
        for name in ("__init__", "__eq__", "__str__", "read", "around", "tied"):
            self.assertIn(name, vars(Web))


class Texts(LaneCase):
    def check(self, text):
        item = wanted_item(text)
        if item is None:
            self.assertEqual(str(Web.read(text)), text)
        else:
            self.raises(f"BadText(0, {item})", Web.read, text)

    def test_a_text_and_back(self):
        rng = self.seeded(1)
        for many in range(1, 12):
            for chance in (0, 0.3, 0.7, 1):
                web = Web(random_turns(rng, many, chance))
                self.assertEqual(Web.read(str(web)), web)
                self.check(str(web))

    def test_texts(self):
        self.assertEqual(str(Web([[]])), "-")
        self.assertEqual(str(Web([[3], [], [1]])), "3 / - / 1")
        self.assertEqual(Web.read("-"), Web([[]]))
        self.assertEqual(Web.read(text="2 / 1"), Web([[2], [1]]))

    def test_a_thousand_places(self):
        web = Web(path_turns(1000))
        self.assertEqual(Web.read(str(web)), web)
        lone = " / ".join(["-"] * 1000)
        self.assertEqual(Web.read(lone).many, 1000)
        self.raises("BadText(0, 1999)", Web.read, lone + " / -")
        self.raises("BadText(0, 1999)", Web.read, lone + " /")
        self.raises("BadText(0, 1998)", Web.read, lone[:-1] + "1001")
        self.raises("BadText(0, 1998)", Web.read, lone[:-1] + "999")
        self.raises("BadText(0, 1998)", Web.read, lone[:-1] + "1000")

    def test_no_strings(self):
        for value in ODD + LISTS + [0, 1, -1, [["2"], ["1"]], b"2 / 1"]:
            self.raises("BadText(0, 0)", Web.read, value)

    def test_items_that_cannot_stand(self):
        for text, item in (
            ("", 0),
            (" ", 0),
            ("/", 0),
            ("1", 0),
            ("0", 0),
            ("02 / 1", 0),
            ("+2 / 1", 0),
            ("-2 / 1", 0),
            ("1001 / 1", 0),
            ("2 /", 2),
            ("- /", 2),
            ("2 / /", 2),
            ("2 / ", 2),
            ("2  / 1", 1),
            ("2 / 2", 2),
            ("2 / 1 1", 3),
            ("2 / 1 -", 3),
            ("- 2 / 1", 1),
            ("- - / 1", 1),
            ("2 / 1 / - 3", 5),
            ("2 / 1\n", 2),
            ("2 / 1 ", 3),
            (" 2 / 1", 0),
            ("2/1", 0),
            ("\u0662 / 1", 0),
            ("\u00b2 / 1", 0),
            ("2 / 1_0", 2),
            ("2 / 1.0", 2),
            ("2 / " + "1" * 140, 2),
            ("2 / " + "1" * 19000, 2),
            ("2 / 1 " + "0" * 19000, 3),
        ):
            self.raises(f"BadText(0, {item})", Web.read, text)
            self.check(text)

    def test_what_only_the_whole_shows(self):
        for text, item in (
            ("2", 0),
            ("1000 2", 1),
            ("2 / -", 2),
            ("- / 1", 2),
            ("2 / 1 3", 3),
            ("2 3 / 1 / -", 5),
            ("2 / 1 / 4", 4),
            ("3 / 1 / 2", 4),
        ):
            self.raises(f"BadText(0, {item})", Web.read, text)
            self.check(text)

    def test_missing_comes_ahead_of_the_whole(self):
        self.raises("BadText(0, 4)", Web.read, "2 / - /")
        self.raises("BadText(0, 1)", Web.read, "9 9 / -")

    def test_each_text_with_one_item_changed(self):
        rng = self.seeded(2)
        others = ("", "-", "/", "0", "1", "2", "3", "7", "01", "+1", "-1", "1000", "1001", "x", "--", "//")
        for many in (1, 2, 3, 5, 6):
            items = str(Web(random_turns(rng, many, 0.6))).split(" ")
            for at in range(len(items) + 1):
                for item in others:
                    self.check(" ".join(items[:at] + [item] + items[at:]))
                    self.check(" ".join(items[:at] + [item] + items[at + 1 :]))
                self.check(" ".join(items[:at] + items[at + 1 :]))
                self.check(" ".join(items[:at]))
                for sign in "+-0 /":
                    self.check(" ".join(items[:at] + [sign + item for item in items[at : at + 1]] + items[at + 1 :]))

    def test_texts_at_random(self):
        rng = self.seeded(3)
        for _ in range(4000):
            self.check(" ".join(rng.choice(("1", "2", "3", "/", "/", "-")) for _ in range(rng.randrange(1, 8))))

    def test_errors_are_of_the_first_line(self):
        with self.assertRaises(BadText) as caught:
            Web.read("x")
        self.assertEqual((caught.exception.line, caught.exception.item), (0, 0))


class Made(LaneCase):
    def test_mirrored(self):
        rng = self.seeded(5)
        for many in range(1, 9):
            web = Web(random_turns(rng, many, 0.5))
            self.assertEqual(mirrored(web).turns, tuple(tuple(reversed(turn)) for turn in web.turns))
            self.assertEqual(mirrored(mirrored(web)), web)
            self.assertEqual(mirrored(web=web).ties, web.ties)

    def test_renamed(self):
        rng = self.seeded(6)
        for many in range(1, 9):
            web = Web(random_turns(rng, many, 0.5))
            names = list(range(1, many + 1))
            self.assertEqual(renamed(web, names), web)
            for _ in range(5):
                rng.shuffle(names)
                other = renamed(web, rng.choice((list, tuple))(names))
                for place in range(1, many + 1):
                    wanted = tuple(names[at - 1] for at in web.around(place))
                    self.assertEqual(other.around(names[place - 1]), wanted)
                back = [names.index(place) + 1 for place in range(1, many + 1)]
                self.assertEqual(renamed(web=other, names=back), web)

    def test_what_is_no_web(self):
        for value in ANYTHING:
            self.raises("BadWeb('web')", mirrored, value)
            self.raises("BadWeb('web')", renamed, value, [1])
            self.raises("BadWeb('web')", renamed, value, value)

    def test_what_are_no_names(self):
        web = Web([[2], [1, 3], [2]])
        for names in ([], [1, 2], [1, 2, 3, 4], [1, 2, 2], [0, 1, 2], [2, 3, 4], [1, 2, True], [1, 2, 3.0], "123"):
            self.raises("BadNames('names')", renamed, web, names)
        for value in ANYTHING:
            self.raises("BadNames('names')", renamed, web, value)
            self.raises("BadNames('names')", renamed, web, [1, 2, value, 3])
            self.raises("BadNames('names')", renamed, Web([[2], [1]]), [value, 10])
        self.raises("BadNames('names')", renamed, web, [[1], [2], [3]])

    def test_webs_in_which_all_are_tied(self):
        turns = [[other for other in range(1, 1001) if other != place] for place in range(1, 1001)]
        web = self.quick(Web, turns)
        self.assertEqual(len(web.ties), 499500)
        self.assertEqual(self.quick(renamed, web, list(range(1000, 0, -1))).around(1000)[:2], (999, 998))
        self.assertEqual(as_lists(self.quick(mirrored, web).around(1)), turns[0][::-1])
        turns[0].append(1)
        self.raises("BadWeb('turns')", Web, turns)


if __name__ == "__main__":
    unittest.main()
