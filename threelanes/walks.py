"""Walks and ways in webs."""

from threelanes.checks import is_row


def is_walk(web, value):
    """Whether any value is a walk in a web."""
    if not is_row(value, 1, web.many) or len(value) == 0:
        return False
    return all([one == other or other in web.turns[one - 1] for one, other in zip(value, value[1:])])


def is_way(web, value):
    """Whether any value is a walk that comes to no place twice."""
    return is_walk(web, value) and len(set(value)) == len(value)
