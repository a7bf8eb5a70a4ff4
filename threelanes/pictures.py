"""Pictures of seats: a line for each layer."""

from threelanes.checks import is_list
from threelanes.errors import BadPaper, BadSeats, TooMany
from threelanes.seats import LANES, Seats, are_unlike_seats
from threelanes.texts import number_in, number_text

MOST_LAYERS = 1000
ITEMS_OF_PIECE = 6


def picture_of(value):
    """The picture of the seats of a Seats."""
    if not isinstance(value, Seats) or not are_unlike_seats(value.seats):
        raise BadPaper("value")
    many = max([seat[1] for seat in value.seats], default=-1) + 1
    if many > MOST_LAYERS:
        raise TooMany("layers", MOST_LAYERS)
    return tuple([_line_of(layer, row) for layer, row in enumerate(_rows_of(value.seats, many))])


def seats_in(picture):
    """The seats whose picture this is."""
    if not is_list(picture) or len(picture) > MOST_LAYERS or not all([isinstance(line, str) for line in picture]):
        raise BadSeats("picture")
    found = {}
    for layer, line in enumerate(picture):
        for place, piece, lane in _spots_in(line):
            found[place] = (piece, layer, lane)
    seats = tuple([found.get(place) for place in range(1, len(found) + 1)])
    # What is read may leave anything else out: just the picture of what was read is right.
    if not are_unlike_seats(seats) or picture_of(Seats(seats, (), ())) != tuple(picture):
        raise BadSeats("picture")
    return seats


def _rows_of(seats, many):
    """For each layer a dict: for each piece that has places in it, these places, by lanes."""
    rows = [{} for _ in range(many)]
    for place, (piece, layer, lane) in enumerate(seats, start=1):
        lanes = rows[layer].setdefault(piece, ["-"] * LANES)
        lanes[lane] = str(place)
    return rows


def _line_of(layer, row):
    """The line of a layer."""
    items = [str(layer), ":"]
    for piece in sorted(row):
        items.extend([number_text(piece), "(", *row[piece], ")"])
    return " ".join(items)


def _spots_in(line):
    """Triples of a place, a piece and a lane that a line tells, the piece None where none stands."""
    items = line.split(" ")
    spots = []
    for at in range(2, len(items), ITEMS_OF_PIECE):
        piece = number_in(items[at], 0, None)
        for lane, item in enumerate(items[at + 2 : at + 2 + LANES]):
            place = number_in(item, 1, None)
            if place is not None:
                spots.append((place, piece, lane))
    return spots
