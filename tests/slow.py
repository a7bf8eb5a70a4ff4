"""Slow ways to ask what the package answers, apart from it, and values bent at one place."""

from tests.drawn import slow_faces


def is_number(value):
    """Whether a value is an integer, and no truth."""
    return type(value) is int


def is_row(value):
    """Whether a value is a list or a tuple."""
    return type(value) in (list, tuple)


def sides_of(places):
    """The sides of a face or a ring."""
    return [(places[at - 1], places[at]) for at in range(len(places))]


def slow_layers(web, outer):
    """The layers, made less until each is at most one more than its neighbours."""
    layers = [0 if place in outer else web.many for place in range(1, web.many + 1)]
    for _ in range(web.many):
        for one, other in web.ties:
            layers[one - 1] = min(layers[one - 1], layers[other - 1] + 1)
            layers[other - 1] = min(layers[other - 1], layers[one - 1] + 1)
    return layers


def slow_leg(web, layers, place):
    """The leg of a place."""
    leg = [place]
    while layers[leg[-1] - 1] > 0:
        leg.append(min(place for place in web.around(leg[-1]) if layers[place - 1] == layers[leg[-1] - 1] - 1))
    return leg


def slow_walk(web, colours, door):
    """The face that a walk meets, None for none, and its doors, told by all faces of the web."""
    faces = slow_faces(web.turns)
    doors = []
    while door not in doors:
        doors.append(door)
        face = next(face for face in faces if door[::-1] in sides_of(face))
        ends = [side for side in sides_of(face) if {colours[place - 1] for place in side} == {1, 2}]
        if len(ends) == 1:
            return face, tuple(doors)
        door = next(side for side in ends if side != door[::-1])
    assert door == doors[0]
    return None, tuple(doors)


def slow_within(web, ring):
    """The faces within a ring."""
    faces = slow_faces(web.turns)
    fence = sides_of(ring)
    found = [face for face in faces if any(side in fence for side in sides_of(face))]
    for _ in faces:
        open_sides = [side for face in found for side in sides_of(face)]
        open_sides = [side for side in open_sides if side not in fence and side[::-1] not in fence]
        found += [face for face in faces if face not in found and any(
            side[::-1] in open_sides for side in sides_of(face)
        )]
    return tuple(face for face in faces if face in found)


def slow_cut(web, outer, ring, begins):
    """The face, the legs and the rings of a cut, from what is told of each place within."""
    layers = slow_layers(web, outer)
    colours = {place: 3 for place in ring}
    colours.update({place: 1 for place in ring[begins[0]: begins[1]]})
    colours.update({place: 2 for place in ring[begins[1]: begins[2]]})
    inside = slow_within(web, ring)
    legs = {}
    for place in {place for face in inside for place in face}:
        leg = slow_leg(web, layers, place)
        foot = next(at for at, upper in enumerate(leg) if upper in ring)
        legs[place] = tuple(leg[: foot + 1])
    [face] = [face for face in inside if {colours[legs[place][-1]] for place in face} == {1, 2, 3}]
    while colours[legs[face[0]][-1]] != 1:
        face = face[1:] + face[:1]
    own = sorted([legs[place] for place in face], key=lambda leg: colours[leg[-1]])
    rims = []
    for at in range(3):
        rim = list(own[at])
        end = own[(at + 1) % 3]
        while rim[-1] != end[-1]:
            rim.append(ring[(ring.index(rim[-1]) + 1) % len(ring)])
        rim += end[:-1][::-1]
        rims.append(tuple(rim) if len(rim) > 2 else ())
    return face, tuple(own), tuple(rims)


def is_tree(bags, above, least, most):
    """Whether two values are bags of least to most pieces, and the bags above them."""
    if not is_row(bags) or not is_row(above) or len(bags) != len(above):
        return False
    for bag in bags:
        if not is_row(bag) or not all(is_number(piece) and piece >= 0 for piece in bag):
            return False
        if list(bag) != sorted(set(bag)) or not least <= len(bag) <= most:
            return False
    if not all(over is None or is_number(over) and 0 <= over < len(bags) for over in above):
        return False
    if sum(over is None for over in above) != 1:
        return False
    for at in range(len(bags)):
        for _ in bags:
            at = None if at is None else above[at]
        if at is not None:
            return False
    for piece in {piece for bag in bags for piece in bag}:
        own = [at for at, bag in enumerate(bags) if piece in bag]
        if sum(above[at] not in own for at in own) != 1:
            return False
    return True


def is_parted(web, outer, pieces, bags, above):
    """Whether three values are right parts of a Parted: the five rules, one by one."""
    if not is_row(pieces) or len(pieces) != web.many or not all(is_number(piece) for piece in pieces):
        return False
    if not is_tree(bags, above, 1, 4):
        return False
    if set(pieces) != set(range(max(pieces) + 1)) or not {piece for bag in bags for piece in bag} <= set(pieces):
        return False
    spots = list(zip(pieces, slow_layers(web, outer)))
    if any(spots.count(spot) > 3 for spot in spots):
        return False
    return all(any({pieces[one - 1], pieces[other - 1]} <= set(bag) for bag in bags) for one, other in web.ties)


def are_seats(web, seats, bags, above):
    """Whether three values are right parts of Seats."""
    if not is_row(seats) or len(seats) != web.many or not is_tree(bags, above, 1, 4):
        return False
    for seat in seats:
        if not is_row(seat) or len(seat) != 3 or not all(is_number(item) and item >= 0 for item in seat) or seat[2] > 2:
            return False
        if not any(seat[0] in bag for bag in bags):
            return False
    if len({tuple(seat) for seat in seats}) < len(seats):
        return False
    for one, other in web.ties:
        first, second = seats[one - 1], seats[other - 1]
        if abs(first[1] - second[1]) > 1:
            return False
        if first[0] != second[0] and not any({first[0], second[0]} <= set(bag) for bag in bags):
            return False
    return True


def other_items(item):
    """What may stand in the place of an item: near numbers, truths, other values."""
    near = [item - 1, item + 1, float(item), str(item)] if is_number(item) else [0, 1]
    return near + [True, False, None, -1, (item,), [], "", {}]


def changed(value):
    """The values that come of one by a change at one place, perhaps itself as well."""
    for item in other_items(value):
        yield item
    if not is_row(value):
        return
    yield value + value
    yield value[::-1]
    for at in range(len(value)):
        yield value[:at] + value[at + 1:]
        yield value[:at] + value[at: at + 1] + value[at:]
        yield value[:at] + value[at: at + 2][::-1] + value[at + 2:]
        for item in changed(value[at]):
            yield value[:at] + (item,) + value[at + 1:]


def bent(value):
    """All values that come of one by a change at one place."""
    # Equal values may still be unlike, as 1 and True are.
    return [other for other in changed(value) if repr(other) != repr(value)]


def told_anyhow(face):
    """A face told from each of its corners, as tuples and lists."""
    for at in range(len(face)):
        yield face[at:] + face[:at]
        yield list(face[at:] + face[:at])


def random_ring(rng, web):
    """A ring of a web, found by a walk to and fro."""
    while True:
        ring = [rng.randrange(1, web.many + 1)]
        while True:
            free = [place for place in web.around(ring[-1]) if place not in ring]
            if len(ring) > 2 and ring[0] in web.around(ring[-1]) and (not free or rng.random() < 0.3):
                return tuple(ring)
            if not free:
                break
            ring.append(rng.choice(free))

