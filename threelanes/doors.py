"""Colours of filled webs: full faces, and walks through doors from one to another."""

from threelanes.checks import is_row
from threelanes.errors import BadColours, BadFace, Misfit
from threelanes.faces import faces_of, from_least_side, places_behind, sides_of, want_three_corners
from threelanes.fills import want_filled
from threelanes.papers import Denial, Paper
from threelanes.webs import want_web


class Met(Paper):
    """A walk ends in a full face, behind so many doors."""

    def __init__(self, face, doors):
        super().__init__("met", face, doors)
        self.face, self.doors = self.parts


class Round(Denial):
    """A walk goes round, through so many doors."""

    def __init__(self, doors):
        super().__init__("round", doors)
        self.doors = self.parts[0]


def full_faces(web, colours):
    """All full faces, ascending."""
    want_colours(web, colours)
    want_filled(web)
    return tuple([face for face in faces_of(web) if _is_full(face, colours)])


def door_walk(web, colours, door):
    """How the walk from a door on ends: Met or Round."""
    want_colours(web, colours)
    if not _is_door(web, colours, door):
        raise BadFace("door")
    want_filled(web)
    face, doors = _walked(places_behind(web), colours, door)
    return Met(face, doors) if face else Round(doors)


def met_face(web, colours, outer):
    """The Met of the walk from the door of a full face."""
    want_colours(web, colours)
    want_three_corners(web, outer, "outer")
    want_filled(web)
    if not _is_full(outer, colours):
        raise Misfit("outer")
    face, doors = _walked(places_behind(web), colours, _door_of(outer, colours))
    return Met(face, doors)


def paired_faces(web, colours):
    """The pairs of full faces between which walks lead, ascending."""
    full = full_faces(web, colours)
    behind = places_behind(web)
    pairs = []
    met = {}
    for face in full:
        # The walk back from a face that was met leads to a pair that stands there already.
        if face not in met:
            other, _ = _walked(behind, colours, _door_of(face, colours))
            met[other] = True
            pairs.append((face, other))
    return tuple(pairs)


def want_colours(web, colours):
    """Raises BadWeb("web"), or BadColours("colours") for no list of a colour for each place."""
    want_web(web)
    if not is_row(colours, 1, 3) or len(colours) != web.many:
        raise BadColours("colours")


def _are_ends(one, other, colours):
    """Whether one of two places has the colour 1, the other one 2."""
    return sorted([colours[one - 1], colours[other - 1]]) == [1, 2]


def _is_door(web, colours, value):
    """Whether any value is a pair of tied places that is a door."""
    if not is_row(value, 1, web.many) or len(value) != 2:
        return False
    one, other = value
    return web.tied(one, other) and _are_ends(one, other, colours)


def _is_full(face, colours):
    """Whether the corners of a face have all three colours."""
    return sorted([colours[place - 1] for place in face]) == [1, 2, 3]


def _door_of(face, colours):
    """The only door of a full face."""
    corners = tuple(face)
    return [side for side in sides_of(corners) if _are_ends(side[0], side[1], colours)][0]


def _walked(behind, colours, door):
    """The face that a walk meets, () if it goes round, and its doors."""
    one, other = door
    doors = []
    while not doors or (one, other) != doors[0]:
        doors.append((one, other))
        third = behind[one - 1][other]
        if colours[third - 1] == 3:
            return from_least_side((other, one, third)), tuple(doors)
        if colours[third - 1] == colours[other - 1]:
            other = third
        else:
            one = third
    return (), tuple(doors)
