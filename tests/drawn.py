"""Webs drawn tie by tie, and slow ways to ask what they are, apart from the package."""

from threelanes.webs import Web


def turned(face):
    """A face told from its least side on."""
    if not face:
        return ()
    told = [tuple(face[at:] + face[:at]) for at in range(len(face))]
    return min(told, key=lambda row: (row[0], row[1 % len(row)]))


def slow_faces(turns):
    """The faces of a web of two places or more, each found from each of its sides."""
    found = set()
    for one in range(1, len(turns) + 1):
        for other in turns[one - 1]:
            face = []
            side = (one, other)
            while not face or side != (one, other):
                face.append(side[0])
                turn = list(turns[side[1] - 1])
                side = (side[1], turn[(turn.index(side[0]) + 1) % len(turn)])
            found.add(turned(tuple(face)))
    return sorted(found)


def corners_of(turns):
    """All corners of faces, as triples: the number of the face, the place ahead, the place."""
    faces = slow_faces(turns)
    return [(at, face[k - 1], face[k]) for at, face in enumerate(faces) for k in range(len(face))]


def put_behind(turn, place, new):
    """Puts a new place just behind another one into a turn."""
    turn.insert(turn.index(place) + 1, new)


def add_tie(rng, turns, within):
    """Puts a tie between two corners, of one face or else of two; whether there was room for it."""
    corners = corners_of(turns)
    pairs = [(first, second) for first in corners for second in corners if (first[0] == second[0]) == within]
    free = [(first, second) for first, second in pairs if second[2] not in [first[2], *turns[first[2] - 1]]]
    if not free:
        return False
    (_, ahead, one), (_, before, other) = rng.choice(free)
    put_behind(turns[one - 1], ahead, other)
    put_behind(turns[other - 1], before, one)
    return True


def grown(rng, many, ties, handles=0):
    """The turns of a joined web, a tree with further ties within faces and between faces, and its handles."""
    turns = [[]]
    for new in range(2, many + 1):
        place = rng.randrange(1, new)
        turns[place - 1].insert(rng.randrange(len(turns[place - 1]) + 1), new)
        turns.append([place])
    for _ in range(ties):
        add_tie(rng, turns, True)
    return turns, sum([add_tie(rng, turns, False) for _ in range(handles)])


def triangulated(rng, many, flips=0):
    """The turns of a filled web, made of three places by new places and flips."""
    turns = [[2, 3], [3, 1], [1, 2]]
    faces = [(1, 2, 3), (1, 3, 2)]
    while len(turns) < many:
        face = faces.pop(rng.randrange(len(faces)))
        new = len(turns) + 1
        for at in range(3):
            put_behind(turns[face[at] - 1], face[at - 1], new)
            faces.append((face[at - 1], face[at], new))
        turns.append([face[2], face[1], face[0]])
    for _ in range(flips):
        one = rng.randrange(1, many + 1)
        other = rng.choice(turns[one - 1])
        left = turns[other - 1][(turns[other - 1].index(one) + 1) % len(turns[other - 1])]
        right = turns[one - 1][(turns[one - 1].index(other) + 1) % len(turns[one - 1])]
        if left != right and right not in turns[left - 1]:
            put_behind(turns[left - 1], other, right)
            put_behind(turns[right - 1], one, left)
            turns[one - 1].remove(other)
            turns[other - 1].remove(one)
    return turns


def nested(many, step=1):
    """The turns of a filled web in which each place is put in beside the last one, so that it gets deep."""
    turns = [[2, 3], [3, 1], [1, 2]]
    face = (1, 2, 3)
    for new in range(4, many + 1):
        for at in range(3):
            put_behind(turns[face[at] - 1], face[at - 1], new)
        turns.append([face[2], face[1], face[0]])
        face = (face[step], face[(step + 1) % 3], new)
    return turns


def all_tied(many):
    """The turns of a web in which each place is tied to all others."""
    return [[other for other in range(1, many + 1) if other != place] for place in range(1, many + 1)]


def paths(many):
    """The turns of so many places in a row."""
    return [[other for other in (at - 1, at + 1) if 1 <= other <= many] for at in range(1, many + 1)]


NEST = Web([[2, 3, 6, 4], [1, 4, 5, 3], [1, 2, 5, 6], [1, 6, 7, 5, 2], [2, 4, 7, 6, 3], [1, 3, 5, 7, 4], [4, 6, 5]])
THREE = Web([[2, 3], [3, 1], [1, 2]])
FOUR = Web([[2, 3, 4], [3, 1, 4], [1, 2, 4], [3, 2, 1]])
PATH = Web([[2], [1, 3], [2]])
KNOT = Web([[2, 3, 4], [1, 3, 4], [1, 2, 4], [1, 2, 3]])
SPLIT = Web([[2], [1], [4], [3]])
# Webs that are not filled though they have faces of three places.
TAIL = Web([[2, 3], [3, 1], [1, 4, 2], [3]])
LONE = Web([[2, 3], [3, 1], [1, 2], []])
HANDLE = Web([[(place + step - 1) % 7 + 1 for step in (1, 3, 2, 6, 4, 5)] for place in range(1, 8)])
