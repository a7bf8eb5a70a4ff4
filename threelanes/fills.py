"""Filled webs: flat ones in which each face has three corners."""

from threelanes.errors import Misfit, TooMany
from threelanes.faces import faces_of, is_flat, sides_of
from threelanes.webs import Web, want_web

MOST_TO_FILL = 150


def is_filled(web):
    """Whether a web is flat, has three places at least, and only faces of three corners."""
    want_web(web)
    return web.many > 2 and all([len(face) == 3 for face in faces_of(web)]) and is_flat(web)


def filled(web):
    """A flat web with new places in each face that has more than three corners."""
    want_flat(web)
    if web.many < 3:
        raise Misfit("web")
    new_turns = []
    beside = {}
    for face in faces_of(web):
        if len(face) > 3:
            sides = sides_of(face)
            first = web.many + len(new_turns) + 1
            new_turns.extend(_turns_within(sides, first))
            for at, side in enumerate(sides):
                beside[side] = (first + at, first + (at + 1) % len(sides))
    turns = [_widened(turn, at + 1, beside) for at, turn in enumerate(web.turns)]
    return Web(turns + new_turns)


def want_flat(web):
    """Raises errors for what is no web, no flat one, or one of too many places to be filled."""
    want_web(web)
    if not is_flat(web):
        raise Misfit("web")
    if web.many > MOST_TO_FILL:
        raise TooMany("places", MOST_TO_FILL)


def want_filled(web):
    """Raises Misfit("web") for a web that is not filled."""
    if not is_filled(web):
        raise Misfit("web")


def _turns_within(sides, first):
    """The turns of the new places within a face: one for each side, then the middle."""
    many = len(sides)
    middle = first + many
    turns = []
    for at, (one, other) in enumerate(sides):
        ahead = first + (at - 1) % many
        behind = first + (at + 1) % many
        turns.append([other, one, ahead, middle, behind])
    turns.append([middle - 1 - at for at in range(many)])
    return turns


def _widened(turn, place, beside):
    """The turn of a place, with the new places of the sides that come to it."""
    wide = []
    for other in turn:
        wide.append(other)
        wide.extend(beside.get((other, place), ()))
    return wide
