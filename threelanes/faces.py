"""Faces of webs, and whether webs are flat."""

from threelanes.checks import is_list, is_within
from threelanes.errors import BadFace, Misfit
from threelanes.papers import Denial, Paper
from threelanes.webs import want_web


class Flat(Paper):
    """A web is flat, and has so many places, ties and faces."""

    def __init__(self, places, ties, faces):
        super().__init__("flat", places, ties, faces)
        self.places, self.ties, self.faces = self.parts


class Apart(Denial):
    """A web is not joined: no tie leads out of some places."""

    def __init__(self, places):
        super().__init__("apart", places)
        self.places = self.parts[0]


class Handles(Denial):
    """A joined web is not flat, but has so many handles."""

    def __init__(self, count):
        super().__init__("handles", count)
        self.count = self.parts[0]


def faces_of(web):
    """All faces, ascending by their least sides, with which they begin."""
    want_web(web)
    if web.many == 1:
        return ((),)
    left = places_behind(web)
    faces = []
    for at, turn in enumerate(web.turns):
        for other in sorted(turn):
            if at + 1 in left[other - 1]:
                faces.append(_taken_round(left, at + 1, other))
    return tuple(faces)


def face_at(web, one, other):
    """The face that has the side from one to other, from its least side on."""
    want_web(web)
    # What is no place is refused by tied, with the names that are wanted here.
    if not web.tied(one, other):
        raise Misfit("other")
    return from_least_side(_face_from(web, one, other))


def judged_flat(web):
    """A Flat of a flat web, an Apart of one that is not joined, or a Handles."""
    want_web(web)
    places = places_from(web, 1)
    if len(places) < web.many:
        return Apart(places)
    faces = len(faces_of(web))
    handles = (2 - (web.many - len(web.ties) + faces)) // 2
    if handles > 0:
        return Handles(handles)
    return Flat(web.many, len(web.ties), faces)


def is_flat(web):
    """Whether a web is flat."""
    return bool(judged_flat(web))


def places_from(web, place):
    """The places to which one comes from a place along ties, ascending."""
    found = {place: True}
    waiting = [place]
    while waiting:
        here = waiting.pop()
        for other in web.turns[here - 1]:
            if other not in found:
                found[other] = True
                waiting.append(other)
    return tuple(sorted(found))


def sides_of(places):
    """The sides from each place of a tuple to the next one, the last to the first."""
    return list(zip(places, places[1:] + places[:1]))


def from_least_side(face):
    """The same face, told from its least side on."""
    sides = sides_of(face)
    at = sides.index(min(sides))
    return face[at:] + face[:at]


def is_face(web, value):
    """Whether any value is a face of a web, told from any of its corners on."""
    if not is_list(value):
        return False
    if len(value) < 2:
        return web.many == 1 and len(value) == 0
    if not all([is_within(place, 1, web.many) for place in value]):
        return False
    return tuple(value) == _face_from(web, value[0], value[1])


def places_behind(web):
    """For each place a dict: behind each place of its turn, the next one."""
    return [dict(zip(turn, turn[1:] + turn[:1])) for turn in web.turns]


def want_three_corners(web, value, part):
    """Raises BadFace(part) for what is no face of three places of a web."""
    if not is_face(web, value) or len(value) != 3:
        raise BadFace(part)


def _taken_round(left, one, other):
    """The face of a side, from this side on, its sides taken out of what is left; () for no side."""
    places = []
    here, there = one, other
    while here in left[there - 1]:
        places.append(here)
        here, there = there, left[there - 1].pop(here)
    return tuple(places)


def _face_from(web, one, other):
    """The face that has the side from one to other, from this side on; () for no side."""
    return _taken_round(places_behind(web), one, other)
