"""Whether papers about walks through doors are right."""

from threelanes.checks import is_just
from threelanes.doors import Met, Round, door_walk


def shows_walk(web, colours, door, value):
    """Whether any value is the Met or the Round of the walk from a door on."""
    right = door_walk(web, colours, door)
    if isinstance(right, Met):
        return isinstance(value, Met) and is_just(value.doors, right.doors) and _is_told(value.face, right.face)
    return isinstance(value, Round) and is_just(value.doors, right.doors)


def _is_told(value, face):
    """Whether any value is a face, told from any of its places on."""
    return any([is_just(value, face[at:] + face[:at]) for at in range(len(face))])
