"""Desks: their names, their lines, and what each line does, answers and raises."""

import re
import unittest

from tests.drawn import paths, triangulated
from tests.slow_walks import bent_texts
from tests.tools import ANYTHING, LaneCase, shown
from threelanes.colourings import map_colours
from threelanes.desks import Desk
from threelanes.errors import BadLine, BadText, LaneError, NoName
from threelanes.faces import faces_of, judged_flat
from threelanes.labels import are_tied, labels_of
from threelanes.lots import shares_of
from threelanes.makes import flipped, floor, put_in, ring, wheel
from threelanes.seats import are_near, seated
from threelanes.webs import Web, mirrored

ITEMS = {
    "ring": "an", "wheel": "an", "floor": "ann", "copy": "aa", "mirror": "aa", "put": "annn", "flip": "ann", "seat": "an",
    "near": "ann", "label": "an", "tied": "ann", "colour": "an", "lots": "an", "drop": "a", "sees": "an",
}
NAME = re.compile("[a-z][a-z0-9]{0,11}", re.ASCII)
NUMBER = re.compile("1000|[1-9][0-9]{0,2}", re.ASCII)
FIVE = Web([[2, 3, 4, 5], [3, 1, 5, 4], [1, 2, 4], [3, 2, 5, 1], [4, 2, 1]])
BEGIN = ("web three 2 3 / 3 1 / 1 2", "floor yard 3 2", "wheel w 5", f"web five {FIVE}")


def told_desk(*lines):
    """A desk that is told lines."""
    desk = Desk()
    for line in lines:
        desk.tell(line)
    return desk


def numbers(values):
    """Numbers with blanks between."""
    return " ".join(str(value) for value in values)


def wrong_item(line):
    """The index of the item that cannot stand in a line, or that is missing; None if all can stand."""
    items = line.split(" ")
    if items[0] == "web":
        return wrong_in_web(items)
    if items[0] not in ITEMS:
        return 0
    kinds = ITEMS[items[0]]
    most = len(kinds) if items[0] != "sees" else 41
    for at, item in enumerate(items[1:]):
        kind = NAME if at < len(kinds) and kinds[at] == "a" else NUMBER
        if at >= most or not kind.fullmatch(item):
            return at + 1
    return len(items) if len(items) <= len(kinds) else None


def wrong_in_web(items):
    """The same for a line with the text of a web."""
    if len(items) < 2 or not NAME.fullmatch(items[1]):
        return 1
    if len(items) < 3:
        return 2
    try:
        Web.read(" ".join(items[2:]))
    except BadText as error:
        return error.item + 2
    return None


class DeskCase(LaneCase):
    def state(self, desk):
        """All that a desk is asked for without a line."""
        return desk.names(), desk.lines()

    def refuses(self, desk, wanted, line):
        """A line raises an error, and changes nothing."""
        before = self.state(desk)
        self.raises(wanted, desk.tell, line)
        self.assertEqual(self.state(desk), before)

    def answers(self, desk, line, wanted):
        """A line is answered, and is a line of the desk."""
        before = desk.lines()
        self.assertEqual(desk.tell(line), wanted)
        self.assertEqual(desk.lines(), before + (line,))

    def agrees(self, desk, name, web):
        """All that can be asked of a web is answered as its functions tell."""
        seats, labels, colours = seated(web), labels_of(web), map_colours(web)
        places = range(1, web.many + 1) if web.many < 15 else range(1, web.many + 1, 7)
        for place in places:
            self.answers(desk, f"seat {name} {place}", numbers(seats.seats[place - 1]))
            self.answers(desk, f"label {name} {place}", labels[place - 1])
            self.answers(desk, f"colour {name} {place}", str(colours[place - 1]))
            self.answers(desk, f"sees {name} {place}", str(colours[place - 1]))
            for other in places:
                near = are_near(seats, seats.seats[place - 1], seats.seats[other - 1])
                self.answers(desk, f"near {name} {place} {other}", "yes" if near else "no")
                self.answers(desk, f"tied {name} {place} {other}", "yes" if web.tied(place, other) else "no")
                self.assertIs(are_tied(labels[place - 1], labels[other - 1]), web.tied(place, other))
        for one, other in web.ties[:9]:
            self.answers(desk, f"sees {name} {one} {other}", numbers([colours[one - 1], colours[other - 1]]))
        for k in (2, 3):
            self.answers(desk, f"lots {name} {k}", numbers(len(lot) for lot in shares_of(web, k).lots))


class Keeping(DeskCase):
    def test_an_empty_desk(self):
        self.assertEqual(self.state(Desk()), ((), ()))
        self.assertEqual(self.state(Desk.read([])), ((), ()))

    def test_webs_that_are_made(self):
        desk = Desk()
        for at, (line, web) in enumerate((
            ("ring {} 3", ring(3)), ("ring {} 1000", ring(1000)), ("wheel {} 3", wheel(3)), ("wheel {} 999", wheel(999)),
            ("floor {} 1 1", floor(1, 1)), ("floor {} 1000 1", floor(1000, 1)), ("floor {} 4 3", floor(4, 3)),
            ("web {} -", Web([[]])), ("web {} 2 / 1", Web([[2], [1]])), ("web {} 2 / 1 3 / 2", Web([[2], [1, 3], [2]])),
        )):
            name = f"n{at}"
            self.answers(desk, line.format(name), numbers(judged_flat(web).parts))
            self.assertEqual(desk.names(), tuple(sorted(f"n{k}" for k in range(at + 1))))
        self.agrees(desk, "n2", wheel(3))
        self.agrees(desk, "n4", floor(1, 1))
        self.agrees(desk, "n6", floor(4, 3))
        self.agrees(desk, "n8", Web([[2], [1]]))

    def test_numbers_that_make_no_web(self):
        desk = told_desk(*BEGIN)
        for line, wanted in (
            ("ring r 1", "BadNumber('many')"), ("ring r 2", "BadNumber('many')"), ("wheel r 2", "BadNumber('many')"),
            ("wheel r 1000", "BadNumber('many')"), ("floor r 1000 2", "TooMany('places', 1000)"), ("floor r 40 26", "TooMany('places', 1000)"),
            ("ring yard 2", "Twice('yard')"), ("wheel yard 1000", "Twice('yard')"), ("floor w 1000 2", "Twice('w')"),
        ):
            self.refuses(desk, wanted, line)

    def test_webs_that_are_not_flat(self):
        desk = told_desk(*BEGIN)
        for text in ("- / -", "2 / 1 / -", "2 3 4 / 1 3 4 / 1 2 4 / 1 2 3", "2 / 1 / 4 / 3"):
            self.refuses(desk, "Misfit('web')", f"web two {text}")
            self.refuses(desk, "Twice('yard')", f"web yard {text}")

    def test_texts_that_cannot_stand(self):
        desk = told_desk(*BEGIN)
        for line, item in (
            ("web", 1), ("web ", 1), ("web a", 2), ("web a ", 2), ("web a x", 2), ("web a 1", 2), ("web a 2", 2), ("web a 2 / 1 1", 5),
            ("web a 2 / -", 4), ("web a 2 /", 4), ("web a 2 / ", 4), ("web a 2 / 1 ", 5), ("web a 1001 / 1", 2), ("web a 1000 / 1", 4),
            ("web A 2 / 1", 1), ("web a - -", 3), ("web yard 2 / 2", 4), ("web 1a 0", 1),
        ):
            self.assertEqual(wrong_item(line), item)
            self.refuses(desk, f"BadText(0, {item})", line)

    def test_copies_and_mirrors(self):
        rng = self.seeded(251)
        desk = told_desk(*BEGIN)
        for at, web in enumerate((Web([[2, 3], [3, 1], [1, 2]]), floor(3, 2), wheel(5), Web(triangulated(rng, 12, 12)))):
            desk.tell(f"web a{at} {web}")
            self.answers(desk, f"copy b{at} a{at}", numbers(judged_flat(web).parts))
            self.answers(desk, f"mirror c{at} a{at}", numbers(judged_flat(web).parts))
            self.answers(desk, f"mirror d{at} c{at}", numbers(judged_flat(web).parts))
            for name, own in ((f"a{at}", web), (f"b{at}", web), (f"c{at}", mirrored(web)), (f"d{at}", web)):
                self.agrees(desk, name, own)
        for word in ("copy", "mirror"):
            self.refuses(desk, "Twice('yard')", f"{word} yard three")
            self.refuses(desk, "Twice('yard')", f"{word} yard yard")
            self.refuses(desk, "Twice('yard')", f"{word} yard none")
            self.refuses(desk, "NoName('none')", f"{word} new none")
            self.refuses(desk, "NoName('new')", f"{word} new new")

    def test_a_copy_is_its_own(self):
        desk = told_desk("wheel a 3", "copy b a", "put b 1 3 2", "mirror c a", "put c 1 2 3")
        web = wheel(3)
        self.agrees(desk, "a", web)
        self.agrees(desk, "b", put_in(web, (1, 3, 2)))
        self.agrees(desk, "c", put_in(mirrored(web), (1, 2, 3)))
        self.answers(desk, "drop a", "a")
        self.agrees(desk, "b", put_in(web, (1, 3, 2)))

    def test_names_twice_dropped_and_kept_again(self):
        desk = told_desk(*BEGIN)
        self.refuses(desk, "Twice('yard')", "ring yard 5")
        self.answers(desk, "drop yard", "yard")
        self.assertEqual(desk.names(), ("five", "three", "w"))
        for line in ("drop yard", "seat yard 1", "near yard 1 2", "label yard 1", "tied yard 9 9", "colour yard 1", "sees yard 1 2",
                     "lots yard 2", "lots yard 9", "put yard 1 2 3", "flip yard 1 2", "copy new yard", "mirror new yard"):
            self.refuses(desk, "NoName('yard')", line)
        self.answers(desk, "ring yard 5", "5 5 2")
        self.agrees(desk, "yard", ring(5))
        self.refuses(desk, "Twice('yard')", "floor yard 2 2")


class Forms(DeskCase):
    def test_each_line_bent_at_one_item(self):
        counts = [0, 0]
        rights = (
            "web new 2 3 / 3 1 / 1 2", "ring new 5", "wheel new 5", "floor new 2 3", "copy new yard", "mirror new yard", "put three 1 2 3",
            "flip five 1 2", "seat yard 1", "near yard 1 2", "label yard 1", "tied yard 1 2", "colour yard 1", "sees yard 1 2 3", "lots yard 2", "drop yard",
        )
        self.assertEqual({line.split(" ")[0] for line in rights}, {"web", *ITEMS})
        for right in rights:
            self.assertIsNone(wrong_item(right))
            told_desk(*BEGIN, right)
            for line in [right, *bent_texts(right)]:
                item = wrong_item(line)
                desk = told_desk(*BEGIN)
                counts[item is None] += 1
                if item is not None:
                    self.refuses(desk, f"BadText(0, {item})", line)
                else:
                    self.does_or_raises(desk, line)
        self.assertGreater(min(counts), 100)

    def does_or_raises(self, desk, line):
        """A line whose items can stand raises no BadText; if it raises, it changes nothing."""
        before = self.state(desk)
        try:
            self.assertIs(type(desk.tell(line)), str)
        except LaneError as error:
            self.assertNotIsInstance(error, BadText)
            self.assertEqual(self.state(desk), before)
        else:
            self.assertEqual(desk.lines(), before[1] + (line,))

    def test_bounds_of_integers(self):
        for word, kinds in ITEMS.items():
            for at, kind in enumerate(kinds):
                if kind == "n":
                    for number in ("0", "1", "1000", "1001", "-1", "01", "+1", "1.", "", "x", "1" * 141, "\u0661"):
                        items = ["yard" if kind == "a" else "1" for kind in kinds]
                        items[at] = number
                        line = " ".join([word, *items])
                        wanted = None if number in ("1", "1000") else at + 1
                        self.assertEqual(wrong_item(line), wanted)
                        if wanted is None:
                            self.does_or_raises(told_desk(*BEGIN), line)
                        else:
                            self.refuses(told_desk(*BEGIN), f"BadText(0, {wanted})", line)

    def test_names(self):
        desk = Desk()
        for name in ("a", "z", "a1", "z99999999999", "abcdefghijkl", "web", "drop"):
            self.answers(desk, f"ring {name} 3", "3 3 2")
            self.answers(desk, f"seat {name} 1", numbers(seated(ring(3)).seats[0]))
            self.refuses(desk, f"Twice({name!r})", f"ring {name} 3")
        self.assertEqual(desk.names(), tuple(sorted(("a", "z", "a1", "z99999999999", "abcdefghijkl", "web", "drop"))))
        for name in ("", "1", "1a", "A", "aB", "abcdefghijklm", "a-b", "a_b", "\u00e9", "a\u0661", "-", "/", "a\n", "\ta"):
            for line in (f"ring {name} 3", f"drop {name}", f"seat {name} 1", f"web {name} -", f"copy {name} a"):
                self.refuses(desk, "BadText(0, 1)", line)
            for word in ("copy", "mirror"):
                self.refuses(desk, "BadText(0, 2)", f"{word} new {name}")

    def test_lines_that_are_none(self):
        desk = told_desk(*BEGIN)
        for line in ("", " ", "x", "webs a -", "Web a -", "WEB", "ring\na 3", " ring a 3", "names", "lines", "tell", "\u00e9 a 1"):
            self.refuses(desk, "BadText(0, 0)", line)
        for value in ANYTHING + [b"drop yard", ["drop", "yard"], ("drop yard",)]:
            self.refuses(desk, "BadText(0, 0)", value)
        self.answers(desk, "drop yard", "yard")
        self.assertEqual(Desk().tell(line="ring a 4"), "4 4 2")

    def test_long_ways(self):
        desk = told_desk("ring a 60")
        colours = map_colours(ring(60))
        for many in (1, 2, 39, 40):
            self.answers(desk, "sees a " + numbers(range(1, many + 1)), numbers(colours[:many]))
        for many in (41, 42, 60, 61):
            self.refuses(desk, "BadText(0, 42)", "sees a " + numbers(range(1, many + 1)))
        self.refuses(desk, "BadText(0, 2)", "sees a")
        self.refuses(desk, "BadText(0, 42)", "sees a " + numbers(range(1, 41)) + " ")
        self.refuses(desk, "BadText(0, 5)", "sees a 1 2 3 x " + numbers(range(1, 60)))


class Changing(DeskCase):
    def test_places_that_are_put_in_and_ties_that_are_flipped(self):
        rng = self.seeded(252)
        for web in (Web([[2, 3], [3, 1], [1, 2]]), wheel(3), Web(triangulated(rng, 8, 8))):
            desk = told_desk(f"web a {web}")
            for _ in range(5):
                self.agrees(desk, "a", web)
                face = list(rng.choice(faces_of(web)))
                turn = rng.randrange(3)
                face = face[turn:] + face[:turn]
                web = put_in(web, face)
                self.answers(desk, f"put a {numbers(face)}", numbers(judged_flat(web).parts))
                self.agrees(desk, "a", web)
                one, other = rng.choice(web.ties)
                try:
                    web = flipped(web, other, one)
                except LaneError as error:
                    self.refuses(desk, shown(error), f"flip a {other} {one}")
                else:
                    self.answers(desk, f"flip a {other} {one}", numbers(judged_flat(web).parts))

    def test_what_cannot_be_put_in_or_flipped(self):
        desk = told_desk(*BEGIN, "wheel four 3", "floor one 1 1")
        for line, wanted in (
            ("put yard 1 2 5", "BadFace('face')"), ("put yard 1 2 6", "BadFace('face')"), ("put three 1 2 2", "BadFace('face')"),
            ("put four 1 2 3", "BadFace('face')"), ("put w 2 3 4", "BadFace('face')"), ("put w 1 3 2", "Misfit('web')"),
            ("put yard 7 8 9", "NoName(7)"), ("put yard 1 8 9", "NoName(8)"), ("put yard 1 2 1000", "NoName(1000)"), ("put none 1 2 3", "NoName('none')"),
            ("flip yard 1 2", "Misfit('web')"), ("flip yard 1 6", "Misfit('web')"), ("flip four 1 1", "Misfit('other')"), ("flip four 1 2", "Misfit('one')"),
            ("flip three 1 2", "Misfit('one')"), ("flip five 3 5", "Misfit('other')"), ("flip five 3 1", "Misfit('one')"), ("flip one 1 1", "Misfit('web')"),
            ("flip yard 7 1000", "NoName(7)"), ("flip yard 1 7", "NoName(7)"), ("flip one 2 1", "NoName(2)"), ("flip none 1 1", "NoName('none')"),
        ):
            self.refuses(desk, wanted, line)
        self.answers(desk, "flip five 1 2", "5 9 6")
        self.answers(desk, "flip five 5 3", "5 9 6")
        self.answers(desk, "put four 1 3 2", "5 9 6")

    def test_a_web_that_gets_a_thousand_places(self):
        web = Web(triangulated(self.seeded(253), 750))
        desk = told_desk(f"web a {web}")
        one, other, third = faces_of(web)[0]
        for new in range(751, 1001):
            self.assertEqual(desk.tell(f"put a {one} {other} {third}"), numbers((new, 3 * new - 6, 2 * new - 4)))
            third = new
        self.refuses(desk, "TooMany('places', 1000)", f"put a {one} {other} 1000")
        for line in ("seat a 1000", "near a 1 2", "label a 1", "tied a 1 2", "colour a 1", "sees a 1 500", "lots a 2"):
            self.refuses(desk, "TooMany('places', 150)", line)
        self.refuses(desk, "BadNumber('k')", "lots a 4")
        self.answers(desk, "ring b 999", "999 999 2")
        self.refuses(desk, "NoName(1000)", "seat b 1000")

    def test_places_that_a_web_lacks(self):
        desk = told_desk(*BEGIN)
        for line, place in (
            ("seat yard 7", 7), ("seat yard 1000", 1000), ("near yard 7 8", 7), ("near yard 6 8", 8), ("label yard 7", 7), ("tied yard 9 7", 9),
            ("tied yard 1 7", 7), ("colour yard 7", 7), ("sees yard 1 2 3 9 8", 9), ("sees yard 1 5 7", 7), ("seat three 4", 4), ("sees three 4 1000 5", 4),
        ):
            self.refuses(desk, f"NoName({place})", line)
            self.refuses(desk, "NoName('yards')", re.sub("yard|three", "yards", line))
        error = None
        try:
            desk.tell("seat three 5")
        except NoName as caught:
            error = caught
        self.assertEqual((error.value, type(error.value)), (5, int))

    def test_ways_that_are_none(self):
        desk = told_desk(*BEGIN)
        for places in ("1 5", "1 1", "1 2 1", "1 2 5 4 1", "1 3", "6 5 4 3"):
            self.refuses(desk, "Misfit('way')", f"sees yard {places}")
        colours = map_colours(floor(3, 2))
        for places in ([1], [6], [1, 2], [2, 1], [1, 2, 3, 6, 5, 4], [5, 2]):
            self.answers(desk, f"sees yard {numbers(places)}", numbers(colours[place - 1] for place in places))

    def test_two_things_wrong_at_once(self):
        desk = told_desk(*BEGIN, f"web great {Web(paths(151))}")
        for line, wanted in (
            ("sees great 1 3", "TooMany('places', 150)"), ("sees great 1 152", "NoName(152)"), ("near great 1 1", "TooMany('places', 150)"),
            ("lots great 4", "BadNumber('k')"), ("lots great 2", "TooMany('places', 150)"), ("lots yard 1", "BadNumber('k')"), ("lots yard 1000", "BadNumber('k')"),
            ("lots yards 1000", "NoName('yards')"), ("put yard 9 9 9", "NoName(9)"), ("put yard 1 1 9", "NoName(9)"), ("put yard 1 1 1", "BadFace('face')"),
            ("put great 1 2 3", "BadFace('face')"), ("flip great 1 3", "Misfit('web')"), ("copy great none", "Twice('great')"), ("web great - / -", "Twice('great')"),
            ("web great - / 1", "BadText(0, 4)"), ("sees none 1 1", "NoName('none')"), ("sees none 1 x", "BadText(0, 3)"), ("tied none 0 0", "BadText(0, 2)"),
        ):
            self.refuses(desk, wanted, line)

    def test_many_lines_in_a_short_time(self):
        web = Web(triangulated(self.seeded(254), 60, 60))
        desk = told_desk(f"web a {web}")
        lines = [f"{word} a {one} {other}" for word in ("tied", "near") for one in range(1, 61, 3) for other in range(1, 61)]
        lines += [f"{word} a {one}" for word in ("seat", "label", "colour", "sees") for one in range(1, 61)] + ["lots a 2", "lots a 3"] * 10

        def tell_all():
            return [desk.tell(line) for line in lines]

        told = self.quick(tell_all, seconds=10)
        self.assertEqual(self.quick(tell_all, seconds=10), told)


class ReadBack(DeskCase):
    LINES = (*BEGIN, "put three 1 2 3", "copy a three", "mirror b w", "sees yard 1 2 3", "seat a 4", "drop yard", "floor yard 2 2", "lots b 3", "flip a 1 1000")

    def test_a_desk_read_from_its_lines_answers_alike(self):
        desk = told_desk(*self.LINES[:-1])
        for line in ("flip a 1 1000", "seat none 1", "x"):
            self.assertRaises(LaneError, desk.tell, line)
        self.assertEqual(desk.lines(), self.LINES[:-1])
        for lines in (desk.lines(), list(desk.lines())):
            other = Desk.read(lines)
            self.assertEqual(self.state(other), self.state(desk))
            asked = [f"{word} {name} {rest}" for name in desk.names() for word, rest in (
                ("seat", 1), ("label", 2), ("colour", 3), ("near", "1 2"), ("tied", "1 2"), ("lots", 2), ("sees", "1 2"), ("flip", "1 3"), ("put", "1 2 4"),
            )]
            for line in asked:
                self.assertEqual(self.told_or_raised(Desk.read(lines), line), self.told_or_raised(told_desk(*lines), line))
        self.assertEqual(Desk.read(lines=self.LINES[:2]).names(), ("three", "yard"))

    def told_or_raised(self, desk, line):
        """What a desk answers, or the error that it raises."""
        try:
            return desk.tell(line)
        except LaneError as error:
            return shown(error)

    def test_the_first_line_that_raises(self):
        for lines, at, wanted in (
            (["x"], 0, "BadText(0, 0)"), ([*BEGIN, "seat yard 7", "x"], 4, "NoName(7)"), ([*BEGIN, "drop yard", "drop yard"], 5, "NoName('yard')"),
            ([*BEGIN, *BEGIN], 4, "Twice('three')"), (self.LINES, 12, "NoName(1000)"), ([*BEGIN, "sees yard 1 1"], 4, "Misfit('way')"),
            ([*BEGIN, "ring a 2", ""], 4, "BadNumber('many')"), (["web a 2 / 1 1"], 0, "BadText(0, 5)"), ([*BEGIN, "floor f 999 999"], 4, "TooMany('places', 1000)"),
        ):
            for told in (list(lines), tuple(lines)):
                with self.assertRaises(BadLine) as caught:
                    Desk.read(told)
                self.assertEqual((caught.exception.line, shown(caught.exception.error)), (at, wanted))
                self.assertIsInstance(caught.exception.error, LaneError)

    def test_lines_that_are_no_lists_of_strings(self):
        for value in ANYTHING + ["drop a", {"ring a 3": 1}, [b"ring a 3"], [["ring a 3"]], ["ring a 3", None], ["x", 5], ("x", "y", 1.0), Desk()]:
            if not (isinstance(value, (list, tuple)) and all(isinstance(line, str) for line in value)):
                self.raises("BadNames('lines')", Desk.read, value)

    def test_what_is_passed_and_told_is_copied(self):
        lines = list(BEGIN)
        desk = Desk.read(lines)
        lines.append("drop w")
        self.assertEqual(desk.lines(), BEGIN)
        self.assertIs(type(desk.lines()), tuple)
        self.assertIs(type(desk.names()), tuple)
        one, other = Desk(), Desk()
        one.tell("ring a 3")
        self.assertEqual((one.names(), other.names(), other.lines()), (("a",), (), ()))


if __name__ == "__main__":
    unittest.main()
