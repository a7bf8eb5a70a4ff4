"""Webs that are made: rings, floors, wheels, and filled webs made of others."""

from threelanes.errors import BadFace, Misfit, TooMany
from threelanes.faces import face_at, is_face, sides_of
from threelanes.fills import want_filled
from threelanes.wants import want_number
from threelanes.webs import MOST_PLACES, Web, next_in, want_web


def ring(many):
    """The web of so many places in a ring."""
    want_number(many, 3, MOST_PLACES, "many")
    return Web([[at % many + 1, (at - 2) % many + 1] for at in range(1, many + 1)])


def floor(wide, tall):
    """The web of so many columns and lines, each place tied to its neighbours."""
    want_number(wide, 1, MOST_PLACES, "wide")
    want_number(tall, 1, MOST_PLACES, "tall")
    if wide * tall > MOST_PLACES:
        raise TooMany("places", MOST_PLACES)
    return Web([_floor_turn(wide, tall, place) for place in range(1, wide * tall + 1)])


def wheel(many):
    """The web of place 1 in the middle of a ring of so many further ones."""
    want_number(many, 3, MOST_PLACES - 1, "many")
    rim = [[1, (at - 1) % many + 2, (at + 1) % many + 2] for at in range(many)]
    return Web([list(range(2, many + 2))] + rim)


def put_in(web, face):
    """The filled web with a new place within a face."""
    want_web(web)
    if not is_face(web, face):
        raise BadFace("face")
    want_filled(web)
    if web.many >= MOST_PLACES:
        raise TooMany("places", MOST_PLACES)
    corners = face_at(web, face[0], face[1])
    turns = list(web.turns)
    for ahead, corner in sides_of(corners):
        turns[corner - 1] = _put_behind(turns[corner - 1], ahead, web.many + 1)
    return Web(turns + [corners[::-1]])


def flipped(web, one, other):
    """The filled web in which the tie of two places is flipped."""
    want_web(web)
    want_number(one, 1, web.many, "one")
    want_number(other, 1, web.many, "other")
    want_filled(web)
    if not web.tied(one, other):
        raise Misfit("other")
    left = next_in(web.turns[other - 1], one)
    right = next_in(web.turns[one - 1], other)
    if left == right or web.tied(left, right):
        raise Misfit("one")
    turns = list(web.turns)
    turns[one - 1] = _without(turns[one - 1], other)
    turns[other - 1] = _without(turns[other - 1], one)
    turns[left - 1] = _put_behind(turns[left - 1], other, right)
    turns[right - 1] = _put_behind(turns[right - 1], one, left)
    return Web(turns)


def _floor_turn(wide, tall, place):
    """The neighbours of a place of a floor: above it, to its right, below, to its left."""
    turn = []
    if place > wide:
        turn.append(place - wide)
    if place % wide > 0:
        turn.append(place + 1)
    if place <= wide * (tall - 1):
        turn.append(place + wide)
    if (place - 1) % wide > 0:
        turn.append(place - 1)
    return turn


def _put_behind(turn, place, new):
    """The turn with a new place just behind another one."""
    at = turn.index(place) + 1
    return turn[:at] + (new,) + turn[at:]


def _without(turn, place):
    """The turn less a place."""
    return tuple([other for other in turn if other != place])
