"""Which labels of webs are right."""

import itertools
import unittest

from tests.drawn import FOUR, HANDLE, KNOT, LONE, NEST, PATH, SPLIT, all_tied, paths, triangulated
from tests.slow import bent
from tests.slow_walks import are_slow_labels, bent_texts, slow_label
from tests.tools import ANYTHING, LaneCase
from threelanes.check_labels import shows_labels
from threelanes.labels import label_text, labels_of
from threelanes.makes import floor, ring, wheel
from threelanes.papers import Paper
from threelanes.webs import Web

NONE = "000000000"
TIED, LATE = "0 0 0 / 0 000010000", f"0 0 1 / 0 {NONE}"


def own_labels(web, seats, sides):
    """Labels of a web by seats that are told, all in one piece; a tie is told at its first place, at the other one, or at both."""
    labels = []
    for place, seat in enumerate(seats, start=1):
        signs = ["0"] * 9
        for other in web.around(place):
            first = place < other
            if sides == "both" or (sides == "first") == first:
                signs[3 * (seats[other - 1][1] - seat[1] + 1) + seats[other - 1][2]] = "1"
        labels.append(label_text(seat, [(seat[0], "".join(signs))]))
    return labels


class Shown(LaneCase):
    def test_labels_of_flat_webs(self):
        rng = self.seeded(211)
        webs = [Web([[]]), Web([[2], [1]]), ring(5), floor(4, 3), wheel(6), NEST, FOUR, PATH, floor(1, 30)]
        webs += [Web(triangulated(rng, many, many)) for many in (5, 9, 20, 60)]
        for web in webs:
            told = labels_of(web)
            self.assertIs(shows_labels(web, told), True)
            self.assertIs(shows_labels(web, list(told)), True)

    def test_own_labels_in_one_piece(self):
        two = [(0, 0, 0), (0, 0, 1), (0, 0, 2), (0, 1, 0), (0, 1, 1), (0, 1, 2)]
        for web in (floor(3, 2), floor(2, 3), ring(6), wheel(5), Web(paths(6)), floor(1, 1), Web(triangulated(self.seeded(212), 6, 6))):
            for piece, layer in ((0, 0), (999, 998), (7, 1)):
                seats = [(piece, layer + own, lane) for _, own, lane in two][: web.many]
                for sides in ("first", "other", "both"):
                    told = own_labels(web, seats, sides)
                    self.assertIs(are_slow_labels(web, told), True)
                    self.assertIs(shows_labels(web, told), True)
                    self.assertIs(shows_labels(web, told[::-1]), are_slow_labels(web, told[::-1]))

    def test_two_pieces(self):
        for signs, wanted in ((NONE, False), ("000100000", True), ("000010000", False), ("000001000", False), ("100000000", False)):
            told = [f"0 0 0 / 0 {NONE} / 5 {signs}", f"5 0 0 / 5 {NONE}"] if signs[0] == "0" else [f"0 0 0 / 0 {NONE}", f"5 0 0 / 5 {signs}"]
            self.assertIs(shows_labels(Web([[2], [1]]), told), wanted)
        self.assertIs(shows_labels(Web([[2], [1]]), [f"0 1 2 / 0 {NONE} / 5 000000100", f"5 2 0 / 5 {NONE} / 0 001000000"]), True)
        self.assertIs(shows_labels(Web([[2], [1]]), [f"0 1 2 / 0 {NONE} / 5 000000100", f"5 2 0 / 5 {NONE} / 0 100000000"]), True)
        self.assertIs(shows_labels(Web([[2], [1]]), [f"0 1 2 / 0 {NONE} / 5 100000000", f"5 2 0 / 5 {NONE} / 0 100000000"]), False)

    def test_a_sign_turned(self):
        counts = {True: 0, False: 0}
        for web in (floor(3, 2), wheel(4), PATH, Web([[2], [1]])):
            for told in (labels_of(web), own_labels(web, [(3, 1 + at // 3, at % 3) for at in range(web.many)], "both")):
                for at, label in enumerate(told):
                    for sign, other in ((k, "1" if sign == "0" else "0") for k, sign in enumerate(label) if sign in "01"):
                        value = [*told[:at], label[:sign] + other + label[sign + 1:], *told[at + 1:]]
                        wanted = are_slow_labels(web, value)
                        counts[wanted] += 1
                        self.assertIs(shows_labels(web, value), wanted)
        self.assertGreater(min(counts.values()), 20)

    def test_seats_exchanged_and_made_alike(self):
        counts = {True: 0, False: 0}
        for web in (floor(3, 2), wheel(5), PATH, ring(4)):
            told = list(labels_of(web))
            for one, other in itertools.permutations(range(web.many), 2):
                for value in ([*told[:one], told[other], *told[one + 1:]], self.exchanged(told, one, other)):
                    wanted = are_slow_labels(web, value)
                    counts[wanted] += 1
                    self.assertIs(shows_labels(web, value), wanted)
                seat, near = slow_label(told[one])
                other_seat = slow_label(told[other])[0]
                if other_seat[0] == seat[0]:
                    value = told[:one] + [f"{' '.join(map(str, other_seat))} / {seat[0]} {NONE}"] + told[one + 1:]
                    self.assertIs(shows_labels(web, value), False)
        self.assertGreater(min(counts.values()), 5)

    def exchanged(self, told, one, other):
        """The labels with two of them exchanged."""
        value = list(told)
        value[one], value[other] = told[other], told[one]
        return value

    def test_labels_bent_at_one_item(self):
        counts = {True: 0, False: 0}
        for web in (PATH, FOUR, Web([[2], [1]])):
            told = labels_of(web)
            for at, label in enumerate(told):
                for other in bent_texts(label):
                    value = told[:at] + (other,) + told[at + 1:]
                    wanted = are_slow_labels(web, value)
                    counts[wanted] += 1
                    self.assertIs(shows_labels(web, value), wanted, other)
        self.assertGreater(min(counts.values()), 20)

    def test_lists_bent_at_one_place(self):
        for web in (PATH, FOUR, Web([[]])):
            told = labels_of(web)
            for value in bent(told):
                self.assertIs(shows_labels(web, value), are_slow_labels(web, value), value)
            for at in range(web.many):
                for item in ANYTHING + [(told[at],), [told[at]], told[at].encode(), told]:
                    self.assertIs(shows_labels(web, told[:at] + (item,) + told[at + 1:]), False)
            self.assertIs(shows_labels(web, told + (f"999 999 0 / 999 {NONE}",)), False)
            self.assertIs(shows_labels(web, told[:-1]), False)

    def test_values_that_are_no_lists(self):
        for value in ANYTHING + [Paper("labels", labels_of(PATH)), dict.fromkeys(labels_of(PATH)), " ".join(labels_of(PATH))]:
            self.assertIs(shows_labels(PATH, value), False)
        self.assertIs(shows_labels(Web([[]]), []), False)
        self.assertIs(shows_labels(value=[TIED, LATE], web=Web([[2], [1]])), True)

    def test_what_it_refuses(self):
        for value in ANYTHING:
            self.raises("BadWeb('web')", shows_labels, value, value)
            self.raises("BadWeb('web')", shows_labels, value, [TIED, LATE])
            for web in (SPLIT, KNOT, LONE, HANDLE, Web([[], []]), Web(all_tied(5)), Web([[]] * 151)):
                self.raises("Misfit('web')", shows_labels, web, value)
            for many in (151, 1000):
                self.raises("TooMany('places', 150)", shows_labels, Web(paths(many)), value)

    def test_great_webs(self):
        rng = self.seeded(213)
        for web in (Web(triangulated(rng, 150, 100)), floor(15, 10), wheel(149)):
            told = labels_of(web)
            self.assertIs(self.quick(shows_labels, web, told, seconds=2), True)
            self.assertIs(self.quick(shows_labels, web, told[1:] + told[:1], seconds=2), False)


if __name__ == "__main__":
    unittest.main()
