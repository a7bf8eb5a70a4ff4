"""Labels: texts by which it is seen of two places whether they are tied."""

from threelanes.checks import is_list, is_within
from threelanes.errors import BadLabel, BadSeats
from threelanes.seats import LANES, is_seat, seated
from threelanes.texts import number_in
from threelanes.trees import MOST_IN_BAG, fresh_in

MOST_NUMBER = 999
MANY_SIGNS = 9


def is_label(value):
    """Whether any value is a label."""
    return label_in(value) is not None


def told_label(label):
    """The seat that a label tells, and its pairs of a piece and nine signs."""
    return _wanted_label(label, "label")


def label_text(seat, near):
    """The label that tells a seat, and pairs of a piece and nine signs."""
    if not _is_small_seat(seat):
        raise BadSeats("seat")
    if not _are_near_pieces(seat, near):
        raise BadLabel("near")
    items = [str(number) for number in seat]
    for piece, signs in near:
        items.extend(["/", str(piece), signs])
    return " ".join(items)


def are_tied(one, other):
    """Whether two labels say that their places are tied."""
    return say_tied(_wanted_label(one, "one"), _wanted_label(other, "other"))


def labels_of(web):
    """Right labels of a flat web, one for each place."""
    told = seated(web)
    pieces = _pieces_beside(told)
    around = [[told.seats[other - 1] for other in turn] for turn in web.turns]
    return tuple([_label_of(seat, pieces[seat[0]], others) for seat, others in zip(told.seats, around)])


def label_in(value):
    """The seat and the pairs that any value tells as a label; None for no label."""
    if not isinstance(value, str):
        return None
    items = value.split(" ")
    seat = tuple([number_in(item, 0, MOST_NUMBER) for item in items[:3]])
    groups = [items[at : at + 3] for at in range(3, len(items), 3)]
    if not _is_small_seat(seat) or not all([len(group) == 3 and group[0] == "/" for group in groups]):
        return None
    near = tuple([(number_in(piece, 0, MOST_NUMBER), signs) for _, piece, signs in groups])
    return (seat, near) if _are_near_pieces(seat, near) else None


def say_tied(one, other):
    """Whether of two labels, as label_in gives them, one tells the seat of the other one."""
    return _tells(one, other[0]) or _tells(other, one[0])


def _wanted_label(label, part):
    """What a label tells: BadLabel(part) for none."""
    told = label_in(label)
    if told is None:
        raise BadLabel(part)
    return told


def _is_small_seat(value):
    """Whether any value is a seat that a label can tell."""
    return is_seat(value) and value[0] <= MOST_NUMBER and value[1] <= MOST_NUMBER


def _are_near_pieces(seat, value):
    """Whether any value is a list of pairs that a label with a seat can tell."""
    if not is_list(value) or not is_within(len(value), 1, MOST_IN_BAG):
        return False
    if not all([_is_near_piece(seat, pair) for pair in value]):
        return False
    pieces = [pair[0] for pair in value]
    return pieces[0] == seat[0] and pieces[1:] == sorted(set(pieces[1:])) and seat[0] not in pieces[1:]


def _is_near_piece(seat, value):
    """Whether any value is a pair of a piece and of signs that a label with a seat can tell."""
    if not is_list(value) or len(value) != 2:
        return False
    piece, signs = value
    if not is_within(piece, 0, MOST_NUMBER) or not isinstance(signs, str) or len(signs) != MANY_SIGNS:
        return False
    if not all([sign in ("0", "1") for sign in signs]):
        return False
    # There is no layer below 0, and no place is tied to itself.
    if seat[1] == 0 and "1" in signs[:LANES]:
        return False
    return piece != seat[0] or signs[_sign_of(seat, seat)] == "0"


def _sign_of(seat, other):
    """Where the sign for another seat stands, whose layer is at most one off."""
    return LANES * (other[1] - seat[1] + 1) + other[2]


def _tells(label, seat):
    """Whether a label, as label_in gives it, tells a seat."""
    own, near = label
    if abs(seat[1] - own[1]) > 1:
        return False
    return any([piece == seat[0] and signs[_sign_of(own, seat)] == "1" for piece, signs in near])


def _pieces_beside(told):
    """For each piece of Seats itself, and those in its uppermost bag that count as upper ones of it."""
    # Of two pieces in one bag one is an upper one of the other: so either label, or both, can tell of a tie.
    pieces = {}
    for bag, fresh in zip(told.bags, fresh_in(told.bags, told.above)):
        for piece in fresh:
            pieces[piece] = [piece] + [other for other in bag if other not in fresh or other < piece]
    return pieces


def _label_of(seat, pieces, others):
    """The label of a seat that tells those of others whose pieces are among some."""
    tied = {(other[0], _sign_of(seat, other)): True for other in others}
    near = [(piece, "".join(["1" if (piece, at) in tied else "0" for at in range(MANY_SIGNS)])) for piece in pieces]
    return label_text(seat, near)
