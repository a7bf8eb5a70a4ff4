"""Pictures of seats."""

import unittest

from tests.drawn import nested, paths, triangulated
from tests.slow import bent, is_number, is_row
from tests.slow_walks import bent_texts
from tests.tools import ANYTHING, LaneCase, as_lists
from threelanes.makes import floor, ring, wheel
from threelanes.papers import Denial, Paper
from threelanes.pictures import picture_of, seats_in
from threelanes.pieces import Parted
from threelanes.seats import Seats, seated
from threelanes.webs import Web

GREAT = 10**139
SMALL = ((0, 0, 0), (1, 0, 0), (2, 0, 0), (3, 2, 0), (1, 0, 2))
PICTURE = ("0 : 0 ( 1 - - ) 1 ( 2 - 5 ) 2 ( 3 - - )", "1 :", "2 : 3 ( 4 - - )")


def slow_picture(seats):
    """The picture of seats, item by item."""
    lines = []
    for layer in range(1 + max((seat[1] for seat in seats), default=-1)):
        line = f"{layer} :"
        for piece in sorted({seat[0] for seat in seats if seat[1] == layer}):
            spots = [(piece, layer, lane) for lane in range(3)]
            line += f" {piece} ( " + " ".join(str(seats.index(spot) + 1) if spot in seats else "-" for spot in spots) + " )"
        lines.append(line)
    return tuple(lines)


def are_seats(value):
    """Whether any value is a list of unlike seats."""
    if not is_row(value) or not all(is_row(seat) and len(seat) == 3 for seat in value):
        return False
    if not all(is_number(item) and item >= 0 for seat in value for item in seat) or any(seat[2] > 2 for seat in value):
        return False
    return len({tuple(seat) for seat in value}) == len(value)


def slow_seats(picture):
    """The seats whose picture any value is, None for none; found by looking for each place among all items."""
    if not is_row(picture) or not all(type(line) is str for line in picture):
        return None
    rows = [line.split(" ") for line in picture]
    seats = []
    for place in range(1, 1 + sum(len(row) for row in rows)):
        for layer, row in enumerate(rows):
            for at, item in enumerate(row):
                if item == str(place) and at >= 4 and (at - 4) % 6 < 3:
                    piece = row[2 + (at - 4) // 6 * 6]
                    if not (piece.isascii() and piece.isdigit() and len(piece) <= 140 and piece == str(int(piece))):
                        return None
                    seats.append((int(piece), layer, (at - 4) % 6))
    return tuple(seats) if are_seats(seats) and slow_picture(seats) == tuple(picture) else None


class Pictures(LaneCase):
    def check(self, seats):
        told = self.quick(picture_of, Seats(seats, [], []), seconds=2)
        self.assertEqual(told, slow_picture([tuple(seat) for seat in seats]))
        self.assertEqual(picture_of(Seats(as_lists(seats), None, 5)), told)
        again = self.quick(seats_in, told, seconds=2)
        self.assertEqual(again, tuple(tuple(seat) for seat in seats))
        self.assertEqual(seats_in(list(told)), again)
        return told

    def test_no_seats_and_few(self):
        self.assertEqual(self.check([]), ())
        self.assertEqual(self.check(SMALL), PICTURE)
        self.assertEqual(self.check([(0, 0, 0)]), ("0 : 0 ( 1 - - )",))
        self.assertEqual(picture_of(value=Seats((), 1, 2)), ())
        self.assertEqual(seats_in(picture=["0 : 7 ( - - 1 )"]), ((7, 0, 2),))

    def test_each_lane(self):
        for lane, wanted in enumerate(("1 - -", "- 1 -", "- - 1")):
            self.assertEqual(self.check([(5, 0, lane)]), (f"0 : 5 ( {wanted} )",))
        self.assertEqual(self.check([(5, 0, 2), (5, 0, 0), (5, 0, 1)]), ("0 : 5 ( 2 3 1 )",))

    def test_layers_left_out(self):
        self.assertEqual(self.check([(0, 3, 1), (4, 1, 0)]), ("0 :", "1 : 4 ( 2 - - )", "2 :", "3 : 0 ( - 1 - )"))

    def test_great_pieces(self):
        for piece in (10**30, GREAT, 10 * GREAT - 1):
            self.assertEqual(self.check([(piece, 0, 0), (0, 0, 0)]), (f"0 : 0 ( 2 - - ) {piece} ( 1 - - )",))
        # A text has no integer of more than 140 digits; so this picture is none that can be read.
        told = picture_of(Seats([(10 * GREAT, 0, 0)], [], []))
        self.assertEqual(told, (f"0 : {10 * GREAT} ( 1 - - )",))
        self.raises("BadSeats('picture')", seats_in, told)
        self.assertEqual(len(picture_of(Seats([(10**6000, 0, 0)], [], []))[0]), 6001 + len("0 :  ( 1 - - )"))

    def test_great_layers(self):
        told = self.check([(0, 999, 0), (1, 998, 2)])
        self.assertEqual((len(told), told[0], told[998:]), (1000, "0 :", ("998 : 1 ( - - 2 )", "999 : 0 ( 1 - - )")))
        for layer in (1000, 1001, 10**40):
            self.raises("TooMany('layers', 1000)", picture_of, Seats([(0, 0, 0), (0, layer, 0)], [], []))
            self.raises("BadPaper('value')", picture_of, Seats([(0, layer, 0), (0, layer, 0)], [], []))
        self.raises("BadSeats('picture')", seats_in, [f"{layer} :" for layer in range(1000)] + ["1000 : 0 ( 1 - - )"])

    def test_seats_of_flat_webs(self):
        rng = self.seeded(241)
        for web in (Web([[]]), Web([[2], [1]]), ring(7), floor(4, 4), wheel(9), Web(paths(20)), Web(triangulated(rng, 60, 60)), Web(nested(150))):
            told = seated(web)
            self.check(told.seats)
            self.assertEqual(seats_in(picture_of(told)), told.seats)

    def test_seats_made_at_random(self):
        rng = self.seeded(242)
        spots = [(piece, layer, lane) for piece in (0, 1, 5, 10**20) for layer in range(6) for lane in range(3)]
        for many in range(0, 30, 2):
            self.check(rng.sample(spots, many))
        self.check(rng.sample(spots, len(spots)))
        self.check([(piece, layer, lane) for piece in range(20) for layer in range(50) for lane in range(3)])

    def test_what_are_no_seats(self):
        counts = [0, 0]
        for seats in bent(SMALL):
            right = are_seats(seats)
            counts[right] += 1
            if right:
                self.check(seats)
            else:
                self.raises("BadPaper('value')", picture_of, Seats(seats, [], []))
        self.assertGreater(min(counts), 5)
        for value in ANYTHING + [Paper("seats", SMALL, [], []), Denial("seats", SMALL, [], []), Parted(SMALL, [], []), SMALL, PICTURE]:
            self.raises("BadPaper('value')", picture_of, value)
        for value in ANYTHING + [{1: 2}, SMALL + SMALL[:1], [(0, 0, 3)], [(0, 0)], [(0, 0, 0, 0)], [(True, 0, 0)], [(0, -1, 0)]]:
            if value not in ([], ()):
                self.raises("BadPaper('value')", picture_of, Seats(value, [], []))


class ReadBack(LaneCase):
    def check(self, picture):
        wanted = slow_seats(picture)
        if wanted is None:
            self.raises("BadSeats('picture')", seats_in, picture)
        else:
            self.assertEqual(seats_in(picture), wanted)
            self.assertEqual(picture_of(Seats(wanted, [], [])), tuple(picture))
        return wanted is not None

    def pictures(self):
        rng = self.seeded(243)
        yield PICTURE
        yield ("0 : 0 ( 1 2 3 )",)
        yield ("0 :", "1 : 4 ( 2 - - )", "2 :", "3 : 0 ( - 1 - )")
        yield picture_of(seated(floor(3, 2)))
        yield picture_of(seated(Web(triangulated(rng, 9, 9))))

    def test_items_exchanged_put_in_and_left_out(self):
        counts = {True: 0, False: 0}
        for picture in self.pictures():
            for at, line in enumerate(picture):
                for other in bent_texts(line):
                    counts[self.check(picture[:at] + (other,) + picture[at + 1:])] += 1
        self.assertGreater(min(counts.values()), 20)

    def test_lines_exchanged_put_in_and_left_out(self):
        for picture in self.pictures():
            for value in bent(picture):
                self.check(value)
            for at in range(len(picture) + 1):
                for line in ("", "0 :", f"{at} :", " ", f"{at} : 0 ( - - - )", None, 5, b"0 :", ["0 :"]):
                    self.assertIs(self.check(picture[:at] + (line,) + picture[at:]), False)
            self.assertIs(self.check(picture + (f"{len(picture)} :",)), False)
            self.assertIs(self.check(picture + (f"{len(picture)} : 0 ( 1 - - )",)), False)

    def test_pictures_that_are_none(self):
        for picture in (
            ["0 :"], ["0 : 0 ( - - - )"], ["0 : 0 ( 1 - - ) 0 ( 2 - - )"], ["0 : 1 ( 1 - - ) 0 ( 2 - - )"], ["0 : 0 ( 1 1 - )"],
            ["0 : 0 ( 2 - - )"], ["0 : 0 ( 0 - - )"], ["0 : 0 ( 1 - - ) 1 ( 3 - - )"], ["1 : 0 ( 1 - - )"], ["0 : 0 ( 1 - -"],
            ["0 : 0 ( 1 - - ) "], ["0 : 0 ( 1 - - )", ""], ["0 : 0 ( 1 - - - )"], ["0 : 0 ( 1 - )"], ["0 : 00 ( 1 - - )"], ["0 : +0 ( 1 - - )"],
            ["0 : -1 ( 1 - - )"], ["0 : x ( 1 - - )"], ["0 : 0 ( 01 - - )"], ["0: 0 ( 1 - - )"], ["0 : 0 (1 - - )"], ["0 : 0 ( 1 - - )\n"],
            ["0 : 0 ( 1 - - )", "1 : 0 ( 1 - - )"], [""], [" "], ["0 : 0 ( \u0661 - - )"], ["0 0 : ( 1 - - )"], ["0 : 0 ( 10 - - )"], ["0"], ["0 : 0"],
        ):
            self.assertIs(self.check(picture), False)
        for value in ANYTHING + [PICTURE[0], {0: PICTURE[0]}, {"0 : 0 ( 1 - - )"}, Seats(SMALL, [], []), SMALL, iter(PICTURE)]:
            if value not in ([], ()):
                self.raises("BadSeats('picture')", seats_in, value)

    def test_long_pictures(self):
        many = 400
        line = "0 : " + " ".join(f"{piece} ( {3 * piece + 1} {3 * piece + 2} {3 * piece + 3} )" for piece in range(many))
        self.assertEqual(self.quick(seats_in, [line], seconds=2), tuple((at // 3, 0, at % 3) for at in range(3 * many)))
        self.raises("BadSeats('picture')", seats_in, [line + " 5"])
        self.raises("BadSeats('picture')", seats_in, ["0 : 0 ( " + "9" * 19000 + " - - )"])
        self.raises("BadSeats('picture')", seats_in, ["0 : " + "9" * 19000 + " ( 1 - - )"])


if __name__ == "__main__":
    unittest.main()
