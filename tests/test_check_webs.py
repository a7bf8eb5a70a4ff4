"""Papers about webs, shown to be right or not."""

import unittest

from tests.drawn import KNOT, PATH, SPLIT, THREE, all_tied, grown, paths
from tests.tools import ANYTHING, ODD, LaneCase, random_turns
from threelanes.check_webs import shows_flat
from threelanes.faces import Apart, Flat, Handles, judged_flat
from threelanes.papers import Denial, Paper
from threelanes.webs import Web


class Shown(LaneCase):
    def asks(self, web, value, wanted):
        self.assertIs(shows_flat(web, value), wanted, value)

    def test_flat_with_one_number_more_or_less(self):
        rng = self.seeded(21)
        for many in range(1, 8):
            web = Web(grown(rng, many, many)[0])
            right = judged_flat(web).parts
            self.asks(web, Flat(*right), True)
            for at in range(3):
                for by in (-1, 1):
                    self.asks(web, Flat(*[part + by * (k == at) for k, part in enumerate(right)]), False)
            self.asks(web, Handles(0), False)
            self.asks(web, Apart([1]), False)
            self.asks(web, Apart(list(range(1, many + 1))), False)

    def test_handles_with_one_more_or_less(self):
        rng = self.seeded(22)
        for many in range(5, 9):
            turns, handles = grown(rng, many, many // 2, 2)
            self.assertGreater(handles, 0)
            web = Web(turns)
            for count in range(handles + 3):
                self.asks(web, Handles(count), count == handles)
            self.asks(web, Handles(-handles), False)
            faces = 2 - 2 * handles - many + len(web.ties)
            self.asks(web, Flat(many, len(web.ties), faces), False)
            self.asks(web, Flat(many, len(web.ties), 2 - many + len(web.ties)), False)

    def test_lots_out_of_which_no_tie_leads(self):
        rng = self.seeded(23)
        for _ in range(20):
            web = Web(random_turns(rng, 5, 0.3))
            for code in range(2**6):
                lot = [place for place in range(1, 7) if code >> place - 1 & 1]
                rng.shuffle(lot)
                leads = any((one in lot) != (other in lot) for one, other in web.ties)
                self.asks(web, Apart(lot), 0 < len(lot) < 5 and max(lot) < 6 and not leads)

    def test_wrong_lots(self):
        for lot in ([1, 1, 2], [1, 2, 0], [1, 2, 5], [True, 2], [1.0, 2], ["1", "2"], [[1], [2]], [[1, 2]], {1: 2}, "12"):
            self.asks(SPLIT, Apart(lot), False)
        self.asks(SPLIT, Apart((2, 1)), True)
        self.asks(Web([[], []]), Apart([2]), True)
        self.asks(Web([[], []]), Apart([True]), False)
        self.asks(Web([[], [], []]), Apart([3, 1]), True)
        self.asks(Web([[]]), Apart([1]), False)
        self.asks(Web([[]]), Apart([]), False)

    def test_a_web_that_is_not_joined_has_no_other_paper(self):
        for web in (SPLIT, Web([[], []]), Web([[2, 3], [3, 1], [1, 2], []])):
            for value in [Flat(web.many, len(web.ties), faces) for faces in range(5)] + [Handles(n) for n in range(-2, 3)]:
                self.asks(web, value, False)

    def test_truths_are_no_numbers(self):
        self.asks(KNOT, Handles(1), True)
        self.asks(KNOT, Handles(True), False)
        self.asks(KNOT, Handles(1.0), False)
        self.asks(Web([[]]), Flat(1, 0, 1), True)
        for parts in ((True, 0, 1), (1, False, 1), (1, 0, True), (1.0, 0, 1), (1, 0.0, 1), (1, 0, 1.0)):
            self.asks(Web([[]]), Flat(*parts), False)

    def test_papers_of_other_webs_and_other_classes(self):
        self.asks(PATH, judged_flat(THREE), False)
        self.asks(THREE, judged_flat(KNOT), False)
        self.asks(KNOT, judged_flat(THREE), False)
        for value in (Paper("flat", 3, 2, 1), Denial("flat", 3, 2, 1), ("flat", 3, 2, 1), (3, 2, 1), [3, 2, 1], Flat):
            self.asks(PATH, value, False)
        self.asks(SPLIT, Denial("apart", [1, 2]), False)
        self.asks(KNOT, Denial("handles", 1), False)

    def test_any_values(self):
        for web in (PATH, KNOT, SPLIT):
            for value in ANYTHING:
                self.asks(web, value, False)
                self.asks(web, Flat(value, value, value), False)
                self.asks(web, Flat(3, 2, [value]), False)
                self.asks(web, Apart(value), False)
                self.asks(web, Apart([1, 2, value]), False)
                self.asks(web, Handles([value]), False)
        for value in ODD:
            self.asks(KNOT, Handles(value), False)

    def test_what_is_judged_is_right(self):
        rng = self.seeded(24)
        for _ in range(200):
            web = Web(random_turns(rng, rng.randrange(1, 8), rng.choice((0.3, 0.5, 0.9))))
            self.asks(web, judged_flat(web), True)

    def test_what_is_no_web(self):
        for value in ANYTHING:
            self.raises("BadWeb('web')", shows_flat, value, Flat(3, 2, 1))
            self.raises("BadWeb('web')", shows_flat, value, value)
        self.assertIs(shows_flat(value=Flat(3, 2, 1), web=PATH), True)

    def test_great_webs(self):
        web = Web(all_tied(1000))
        self.assertIs(self.quick(shows_flat, web, judged_flat(web)), True)
        self.assertIs(self.quick(shows_flat, web, Apart(list(range(1, 1000)))), False)
        self.assertIs(self.quick(shows_flat, Web(paths(1000)), Apart(list(range(1, 1000)))), False)
        self.assertIs(self.quick(shows_flat, Web([[]] * 1000), Apart(list(range(1, 1000)))), True)


if __name__ == "__main__":
    unittest.main()
