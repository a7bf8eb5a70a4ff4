"""Rings of filled webs, what is within them, how they are cut, and the pieces that come of it."""

from threelanes.checks import is_lot, is_row
from threelanes.errors import BadFace, BadNumber, Misfit
from threelanes.faces import faces_of, places_behind, sides_of
from threelanes.fills import want_filled
from threelanes.layers import uppers_of, want_outer
from threelanes.papers import Paper
from threelanes.webs import want_web


class Cut(Paper):
    """How a ring is cut: a face, the legs of its corners, the rings between them."""

    def __init__(self, face, legs, rims):
        super().__init__("cut", face, legs, rims)
        self.face, self.legs, self.rims = self.parts


class Parted(Paper):
    """A piece for each place, bags of pieces, and for each bag the one above it."""

    def __init__(self, pieces, bags, above):
        super().__init__("parted", pieces, bags, above)
        self.pieces, self.bags, self.above = self.parts


def is_ring(web, ring):
    """Whether any value is a ring of a web."""
    want_web(web)
    if not is_lot(ring) or len(ring) < 3 or max(ring) > web.many:
        return False
    return all([web.tied(one, other) for one, other in sides_of(tuple(ring))])


def within(web, ring):
    """The faces within a ring, in the order of faces."""
    _want_ring(web, ring)
    want_filled(web)
    inside = _sides_within(web, ring)
    return tuple([face for face in faces_of(web) if face[:2] in inside])


def cut(web, outer, ring, begins):
    """How a ring is cut that is told in three stretches."""
    want_outer(web, outer)
    _want_ring(web, ring)
    if not _are_begins(begins, len(ring)):
        raise BadNumber("begins")
    want_filled(web)
    if (outer[0], outer[1]) in _sides_within(web, ring):
        raise Misfit("ring")
    face, legs, rims = _cut(places_behind(web), uppers_of(web, outer), tuple(ring), begins)
    return Cut(face, legs, rims)


def parted(web, outer):
    """A right Parted of a filled web with an outer face."""
    uppers = uppers_of(web, outer)
    behind = places_behind(web)
    pieces = {place: piece for piece, place in enumerate(outer)}
    many = 3
    bags = []
    above = []
    waiting = [(tuple(outer[::-1]), None)]
    while waiting:
        ring, over = waiting.pop()
        _, legs, rims = _cut(behind, uppers, ring, _begins_of(ring, pieces))
        waiting.extend([(rim, len(bags)) for rim in rims if rim])
        new = [place for leg in legs for place in leg[:-1]]
        pieces.update({place: many for place in new})
        if new:
            many += 1
        bags.append(sorted(set([pieces[place] for place in [*ring, *new]])))
        above.append(over)
    return Parted([pieces[place] for place in range(1, web.many + 1)], bags, above)


def _want_ring(web, ring):
    """Raises BadWeb("web"), or BadFace("ring") for what is no ring of a web."""
    if not is_ring(web, ring):
        raise BadFace("ring")


def _are_begins(value, many):
    """Whether any value is a list of three ascending indexes below many."""
    return is_row(value, 0, many - 1) and len(value) == 3 and value[0] < value[1] < value[2]


def _sides_within(web, ring):
    """The sides of the faces within a ring of a filled web."""
    behind = places_behind(web)
    waiting = sides_of(tuple(ring))
    fence = {side: True for side in waiting}
    inside = {}
    while waiting:
        one, other = waiting.pop()
        if (one, other) not in inside:
            third = behind[other - 1][one]
            for here, there in sides_of((one, other, third)):
                inside[(here, there)] = True
                if (here, there) not in fence:
                    waiting.append((there, here))
    return inside


def _cut(behind, uppers, ring, begins):
    """The face, the legs and the rings of a cut."""
    first, second, third = begins
    colours = {place: 3 for place in ring}
    colours.update({place: 1 for place in ring[first:second]})
    colours.update({place: 2 for place in ring[second:third]})
    face = _full_within(behind, uppers, colours, (ring[second - 1], ring[second]))
    legs = [_leg_to(uppers, ring, corner) for corner in face]
    rims = [_rim(ring, legs[at], legs[(at + 1) % 3]) for at in range(3)]
    return face, legs, rims


def _full_within(behind, uppers, colours, door):
    """The full face that one meets from the only door of a ring, from its corner with colour 1 on."""
    # Doors are gone through with the colour 1 on the same hand: so the corners come in the order of colours.
    one, other = door
    corner = behind[other - 1][one]
    colour = _colour_up(uppers, colours, corner)
    while colour != 3:
        if colour == 1:
            one = corner
        else:
            other = corner
        corner = behind[other - 1][one]
        colour = _colour_up(uppers, colours, corner)
    return one, other, corner


def _colour_up(uppers, colours, place):
    """The colour of the first place of a leg that has one; the places ahead of it get it, too."""
    leg = [place]
    while leg[-1] not in colours:
        leg.append(uppers[leg[-1] - 1])
    colour = colours[leg[-1]]
    for below in leg:
        colours[below] = colour
    return colour


def _leg_to(uppers, ring, place):
    """The leg of a place as far as its first place on the ring."""
    leg = [place]
    while leg[-1] not in ring:
        leg.append(uppers[leg[-1] - 1])
    return tuple(leg)


def _rim(ring, leg, last):
    """The ring up a leg, on along the ring, and down the last leg; () if it has two places."""
    foot, end = ring.index(leg[-1]), ring.index(last[-1])
    stretch = ring[foot : end + 1] if foot < end else ring[foot:] + ring[: end + 1]
    rim = leg[:-1] + stretch + last[:-1][::-1]
    return rim if len(rim) > 2 else ()


def _begins_of(ring, pieces):
    """Three indexes of a ring, so that between them all places are of one piece."""
    begins = [at for at in range(len(ring)) if pieces[ring[at]] != pieces[ring[at - 1]]]
    others = [at for at in range(len(ring)) if at not in begins]
    return sorted((begins + others)[:3])
