"""Labels: their texts, what they tell, and labels of flat webs."""

import itertools
import unittest

from tests.drawn import HANDLE, KNOT, LONE, SPLIT, all_tied, grown, nested, paths, triangulated
from tests.slow import bent, is_number, is_row
from tests.slow_walks import are_slow_labels, bent_texts, slow_label, slow_tied
from tests.tools import ANYTHING, LISTS, NUMBERS, ODD, STRINGS, LaneCase, as_lists, as_tuples
from threelanes.labels import are_tied, is_label, label_text, labels_of, told_label
from threelanes.makes import floor, ring, wheel
from threelanes.webs import Web, mirrored

NONE = "000000000"
ALL = "111111111"
ONE = "0 0 0 / 0 000000100 / 1 000100000"
FULL = "5 7 1 / 5 111101111 / 0 111111111 / 6 000000001 / 999 100000000"


def is_small(value):
    """Whether any value is an integer from 0 to 999."""
    return is_number(value) and 0 <= value <= 999


def slow_text(seat, near):
    """The label that two values tell, None for none, asked of the text that they give."""
    if not is_row(near) or not all(is_row(pair) and len(pair) == 2 for pair in near):
        return None
    if not all(is_small(piece) and type(signs) is str for piece, signs in near):
        return None
    text = " ".join([f"{number}" for number in seat] + [f"/ {piece} {signs}" for piece, signs in near])
    return text if slow_label(text) else None


class Texts(LaneCase):
    def check(self, value):
        wanted = slow_label(value)
        self.assertIs(is_label(value), wanted is not None, value)
        if wanted is None:
            self.raises("BadLabel('label')", told_label, value)
            self.raises("BadLabel('one')", are_tied, value, ONE)
            self.raises("BadLabel('other')", are_tied, ONE, value)
        else:
            self.assertEqual(told_label(value), wanted)
            self.assertEqual(label_text(*wanted), value)
            self.assertEqual(label_text(*as_lists(wanted)), value)
        return wanted is not None

    def test_labels(self):
        for text in (
            ONE, FULL, f"0 0 0 / 0 {NONE}", f"999 999 2 / 999 {NONE}", "999 999 2 / 999 111110111", f"3 0 2 / 3 000110111 / 0 {NONE}",
            f"1 1 1 / 1 {NONE} / 0 {ALL} / 2 {ALL} / 3 {ALL}", f"0 1 0 / 0 111011111 / 998 {ALL} / 999 {ALL}",
        ):
            self.assertIs(self.check(text), True)
        self.assertIs(is_label(value=ONE), True)
        self.assertEqual(told_label(label=f"7 0 2 / 7 {NONE}"), ((7, 0, 2), ((7, NONE),)))

    def test_texts_that_are_no_labels(self):
        for text in (
            "", " ", "0 0 0", "0 0 0 /", "0 0 0 / 0", f"0 0 / 0 {NONE}", f"0 0 0 0 / 0 {NONE}", f"0 0 3 / 0 {NONE}", f"1000 0 0 / 1000 {NONE}",
            f"0 1000 0 / 0 {NONE}", f"0 0 0 / 0 {NONE} / 1000 {NONE}", f"0 0 0 / 1 {NONE}", f"1 0 0 / 0 {NONE} / 1 {NONE}",
            f"0 0 0 / 0 {NONE} / 0 {NONE}", f"0 0 0 / 0 {NONE} / 2 {NONE} / 1 {NONE}", f"0 0 0 / 0 {NONE} / 1 {NONE} / 1 {NONE}",
            f"1 0 0 / 1 {NONE} / 0 {NONE} / 1 {NONE}", "0 0 0 / 0 00000000", "0 0 0 / 0 0000000000", "0 0 0 / 0 000000002",
            "0 0 0 / 0 00000000 ", "0 0 0 / 0 00000000x", f"0 0 0  / 0 {NONE}", f"0 0 0 / 0  {NONE}", f"00 0 0 / 0 {NONE}", f"0 0 0 / 00 {NONE}",
            f"+1 0 0 / +1 {NONE}", f"-1 0 0 / -1 {NONE}", f"0 0 0 / 0 {NONE} /", f"0 0 0 / 0 {NONE} ", f" 0 0 0 / 0 {NONE}", f"0 0 0 : 0 {NONE}",
            f"0 0 0 / 0 {NONE} / 1 {NONE} / 2 {NONE} / 3 {NONE} / 4 {NONE}", "0 0 0 / 0 100000000", "0 0 0 / 0 001000000", "0 0 0 / 0 000100000",
            "0 0 1 / 0 000010000", "0 0 2 / 0 000001000", "0 5 2 / 0 000001000", f"0 0 0 / 0 {NONE} / 1 010000000",
            f"0 0 0 / 0 {NONE}\n", f"0\t0 0 / 0 {NONE}", f"\u0660 0 0 / 0 {NONE}", "0 0 0 / 0 00000000\u0660", "0 0 0 / 0 \u00b900000000",
        ):
            self.assertIs(self.check(text), False)

    def test_texts_bent_at_one_item(self):
        counts = {True: 0, False: 0}
        for text in (ONE, FULL, f"0 0 0 / 0 {NONE}", f"9 1 2 / 9 111110111 / 10 {ALL}", f"999 999 0 / 999 {NONE} / 0 {NONE} / 1 {NONE} / 998 {ALL}"):
            for other in bent_texts(text):
                counts[self.check(other)] += 1
        self.assertGreater(min(counts.values()), 50)

    def test_texts_with_a_sign_turned(self):
        for layer, lane in itertools.product((0, 1, 999), (0, 1, 2)):
            for at in range(9):
                signs = NONE[:at] + "1" + NONE[at + 1:]
                below = layer == 0 and at < 3
                self.assertIs(self.check(f"4 {layer} {lane} / 4 {signs}"), not below and at != 3 + lane)
                self.assertIs(self.check(f"4 {layer} {lane} / 4 {NONE} / 9 {signs}"), not below)

    def test_values_that_are_no_strings(self):
        for value in ODD + NUMBERS + LISTS + STRINGS + [ONE.encode(), [ONE], (0, 0, 0), ONE.split(" "), ((0, 0, 0), ((0, NONE),))]:
            self.assertIs(self.check(value), False)


class Made(LaneCase):
    def check(self, seat, near):
        wanted = slow_text(seat, near)
        if wanted is None:
            self.raises("BadLabel('near')", label_text, seat, near)
        else:
            self.assertEqual(label_text(seat, near), wanted)
        return wanted is not None

    def test_lists_and_tuples(self):
        for seat, near in (((0, 0, 0), ((0, "000000100"), (1, "000100000"))), ((5, 9, 2), ((5, NONE), (0, ALL), (4, NONE), (999, ALL)))):
            text = label_text(seat, near)
            for own in (seat, list(seat)):
                for told in (near, list(near), as_lists(near), tuple(as_lists(near))):
                    self.assertEqual(label_text(own, told), text)
            self.assertEqual(told_label(text), (seat, near))
            self.assertEqual(label_text(near=near, seat=seat), text)

    def test_seats_that_are_none(self):
        for seat in bent((5, 2, 1)):
            right = is_row(seat) and len(seat) == 3 and all(is_number(item) and item >= 0 for item in seat) and seat[2] < 3
            if right:
                self.check(seat, ((5, NONE),))
            else:
                self.raises("BadSeats('seat')", label_text, seat, ((5, NONE),))
                self.raises("BadSeats('seat')", label_text, seat, None)
        for seat in ((1000, 0, 0), (0, 1000, 0), (10**30, 0, 0), (0, 10**30, 0), (0, 0, 3), (0, 0), (0, 0, 0, 0)):
            self.raises("BadSeats('seat')", label_text, seat, ((seat[0], NONE),))
        for seat in ((999, 999, 2), (999, 0, 0), (0, 999, 1)):
            self.assertIs(self.check(seat, ((seat[0], NONE),)), True)
        for value in ANYTHING:
            self.raises("BadSeats('seat')", label_text, value, value)

    def test_pairs_bent_at_one_place(self):
        counts = {True: 0, False: 0}
        for seat, near in (((0, 0, 0), ((0, "000000100"), (1, "000100000"))), ((7, 3, 1), ((7, ALL[:4] + "0" + ALL[5:]), (0, NONE), (8, ALL))),
                           ((7, 3, 1), ((7, NONE), (0, NONE), (8, ALL), (9, NONE)))):
            for other in bent(near):
                counts[self.check(seat, other)] += 1
            for at in range(len(near)):
                for signs in ("", "0", NONE[1:], NONE + "0", NONE[1:] + "2", ALL, NONE, " " + NONE[1:], NONE[1:] + "\u0660", None, 0, list(NONE)):
                    counts[self.check(seat, near[:at] + ((near[at][0], signs),) + near[at + 1:])] += 1
                for piece in (-1, 0, 1, 6, 7, 8, 9, 998, 999, 1000, True, False, 7.0, "7", None, [7], 10**40):
                    counts[self.check(seat, near[:at] + ((piece, near[at][1]),) + near[at + 1:])] += 1
        self.assertGreater(min(counts.values()), 20)
        for value in ANYTHING + [NONE, ((0, NONE), (0, NONE)), ((1, NONE), (0, NONE)), ((0, NONE),) * 5, ()]:
            self.assertIs(self.check((0, 0, 0), value), False)
        self.assertIs(self.check((0, 0, 0), [(at, NONE) for at in range(4)]), True)
        self.assertIs(self.check((0, 0, 0), [(at, NONE) for at in range(5)]), False)


class Tied(LaneCase):
    def test_layers_and_lanes(self):
        counts = {True: 0, False: 0}
        for layer, other, lane in itertools.product((0, 1, 2, 5), range(8), range(3)):
            for at in range(9):
                signs = NONE[:at] + "1" + NONE[at + 1:]
                one = f"3 {layer} 0 / 3 {NONE} / 8 {signs}"
                if is_label(one):
                    two = f"8 {other} {lane} / 8 {NONE}"
                    wanted = other - layer + 1 == at // 3 and lane == at % 3
                    counts[wanted] += 1
                    self.assertIs(slow_tied(one, two), wanted)
                    self.assertIs(are_tied(one, two), wanted)
                    self.assertIs(are_tied(two, one), wanted)
        self.assertGreater(min(counts.values()), 10)

    def test_labels_made_at_random(self):
        rng = self.seeded(201)
        counts = {True: 0, False: 0}
        labels = []
        while len(labels) < 150:
            seat = [rng.randrange(4), rng.randrange(3), rng.randrange(3)]
            pieces = sorted(rng.sample([piece for piece in range(4) if piece != seat[0]], rng.randrange(4)))
            text = slow_text(seat, [(piece, "".join(rng.choice("0001") for _ in range(9))) for piece in [seat[0], *pieces]])
            labels += [text] if text else []
        for one, other in itertools.product(labels, labels):
            wanted = slow_tied(one, other)
            counts[wanted] += 1
            self.assertIs(are_tied(one, other), wanted)
        self.assertGreater(min(counts.values()), 500)

    def test_one_label_with_itself(self):
        for text in (ONE, FULL, "5 7 1 / 5 111101111", "0 0 1 / 0 000101111"):
            self.assertIs(are_tied(text, text), False)
        self.assertIs(are_tied(other="0 1 0 / 0 000000000", one=ONE), True)
        self.assertIs(are_tied("5 7 1 / 5 111101111", f"5 7 1 / 5 {NONE}"), False)
        self.assertIs(are_tied("0 999 0 / 0 000000100", f"0 999 0 / 0 {NONE}"), False)

    def test_what_are_no_labels(self):
        for value in ANYTHING + ["0 0 0", "2 0 1 / 2 100000000"]:
            self.raises("BadLabel('one')", are_tied, value, value)
            self.raises("BadLabel('one')", are_tied, value, ONE)
            self.raises("BadLabel('other')", are_tied, ONE, value)


class Webs(LaneCase):
    def check(self, web):
        told = self.quick(labels_of, web, seconds=2)
        self.assertIs(type(told), tuple)
        self.assertIs(are_slow_labels(web, told), True)
        self.assertTrue(all(len(label.split(" ")) <= 15 for label in told))
        self.assertEqual(len({told_label(label)[0] for label in told}), web.many)
        pairs = itertools.combinations(range(1, web.many + 1), 2)
        if web.many <= 20:
            self.assertTrue(all(are_tied(told[one - 1], told[other - 1]) is web.tied(one, other) for one, other in pairs))
        self.assertEqual(labels_of(Web(as_lists(web.turns))), told)

    def test_few_places(self):
        for turns in ([[]], [[2], [1]], [[2, 3], [3, 1], [1, 2]], [[2], [1, 3], [2]], [[2, 3], [1], [1]]):
            self.check(Web(turns))
        self.assertEqual(labels_of(web=Web([[]])), labels_of(Web([[]])))

    def test_webs_that_are_made(self):
        for many in (3, 4, 5, 12, 30):
            for web in (Web(paths(many)), ring(many), wheel(many), floor(many, 2), floor(2, many)):
                self.check(web)
        self.check(floor(6, 6))

    def test_webs_made_at_random(self):
        rng = self.seeded(202)
        for many in range(3, 24):
            for web in (Web(grown(rng, many, rng.randrange(many))[0]), Web(triangulated(rng, many, many))):
                self.check(web)
                self.check(mirrored(web))

    def test_webs_of_sixty_places(self):
        rng = self.seeded(203)
        for web in (Web(triangulated(rng, 60, 80)), Web(nested(60)), Web(grown(rng, 60, 20)[0]), floor(6, 10), wheel(59), ring(60)):
            self.check(web)

    def test_short_labels_for_long_lines(self):
        for many in (30, 60, 150):
            line = Web(paths(many))
            self.check(line)
            self.assertTrue(all(len(label) <= 90 for label in labels_of(line)))

    def test_webs_of_150_places(self):
        web = Web(triangulated(self.seeded(204), 150, 100))
        told = self.quick(labels_of, web, seconds=3)
        self.assertEqual(len({told_label(label)[0] for label in told}), 150)
        self.assertTrue(all(are_tied(told[one - 1], told[other - 1]) for one, other in web.ties))

    def test_what_is_refused(self):
        for value in ANYTHING:
            self.raises("BadWeb('web')", labels_of, value)
        for web in (Web([[], []]), SPLIT, KNOT, LONE, HANDLE, Web(all_tied(5)), Web([[]] * 151)):
            self.raises("Misfit('web')", labels_of, web)
        for many in (151, 1000):
            self.raises("TooMany('places', 150)", labels_of, Web(paths(many)))

    def test_tuples_alone(self):
        told = told_label(FULL)
        self.assertEqual(told, as_tuples(told))
        self.assertIs(type(told[1][0]), tuple)


if __name__ == "__main__":
    unittest.main()
