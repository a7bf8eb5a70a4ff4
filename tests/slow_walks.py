"""Slow ways to ask what walks see, and what labels tell, apart from the package."""

import itertools
import re

from tests.slow import is_number, is_row


def near_in(turns):
    """For each place of a web those that are equal or tied to it."""
    return {place: {place, *turn} for place, turn in enumerate(turns, start=1)}


def near_on(many):
    """For each place of a line those that are equal or tied to it."""
    return {place: {other for other in range(many) if abs(place - other) < 2} for place in range(many)}


def near_beside(pieces, bags):
    """For each piece of a tree of bags those that are equal or tied to it."""
    near = {piece: {piece} for piece in pieces}
    for bag in bags:
        for piece in bag:
            near[piece] |= set(bag)
    return near


def is_slow_walk(near, walk):
    """Whether any value is a walk."""
    if not is_row(walk) or len(walk) == 0 or not all(is_number(place) and place in near for place in walk):
        return False
    return all(walk[at + 1] in near[walk[at]] for at in range(len(walk) - 1))


def halves_of(walk):
    """The first and the last half of a walk; None if it has none."""
    half = len(walk) // 2
    return None if len(walk) % 2 else (list(walk[:half]), list(walk[half:]))


def sees(near, colours, walk):
    """Whether any value is a walk that sees a repeat; colours is a dict."""
    if not is_slow_walk(near, walk) or halves_of(walk) is None:
        return False
    first, last = halves_of(walk)
    return [colours[place] for place in first] == [colours[place] for place in last]


def is_slow_stray(near, colours, walk):
    """Whether any value is a walk that sees a repeat and is not alike both times."""
    return sees(near, colours, walk) and walk[: len(walk) // 2] != walk[len(walk) // 2:]


def is_slow_echo(near, colours, walk):
    """Whether any value is a walk that sees a repeat and is never alike."""
    if not sees(near, colours, walk):
        return False
    first, last = halves_of(walk)
    return all(one != other for one, other in zip(first, last))


def reached(near, colours, start, never_alike):
    """The pairs of places of one colour to which steps lead from a pair."""
    found = {start}
    waiting = [start]
    while waiting:
        one, other = waiting.pop()
        for pair in itertools.product(near[one], near[other]):
            if pair not in found and colours[pair[0]] == colours[pair[1]] and not (never_alike and pair[0] == pair[1]):
                found.add(pair)
                waiting.append(pair)
    return found


def are_sound(near, colours):
    """Whether no walk sees a repeat and is never alike."""
    done = set()
    for pair in itertools.permutations(near, 2):
        if colours[pair[0]] == colours[pair[1]] and pair not in done:
            part = reached(near, colours, pair, True)
            done |= part
            firsts = {one for one, _ in part}
            if any(near[other] & firsts for _, other in part):
                return False
    return True


def are_calm(colours):
    """Whether each walk on a line that sees a repeat is alike both times, by pairs of places."""
    near = near_on(len(colours))
    for first, second in itertools.product(near, near):
        if colours[first] == colours[second]:
            for one, other in reached(near, colours, (first, second), False):
                if second in near[one] and ((one, other) != (first, second) or first != second):
                    if not _all_alike(near, colours, (first, second), (one, other)):
                        return False
    return True


def _all_alike(near, colours, start, end):
    """Whether no way of pairs from start to end has a pair of unlike places."""
    there = reached(near, colours, start, False)
    # Steps lead back, too: so each pair that is reached at all lies on such a way.
    return all(one == other for one, other in there)


def ways_in(turns, most):
    """All ways of at most so many places."""
    rows = [(place,) for place in range(1, len(turns) + 1)]
    while rows:
        yield from rows
        rows = [row + (place,) for row in rows if len(row) < most for place in turns[row[-1] - 1] if place not in row]


def has_repeat_way(turns, colours, most):
    """Whether some way of at most twice so many places sees a repeat."""
    near = near_in(turns)
    table = dict(enumerate(colours, start=1))
    return any(sees(near, table, way) for way in ways_in(turns, 2 * most))


NUMERAL = "(0|[1-9][0-9]{0,2})"
LABEL = re.compile(f"{NUMERAL} {NUMERAL} ([012])((?: / {NUMERAL} [01]{{9}}){{1,4}})", re.ASCII)


def slow_label(value):
    """The seat and the table of signs of any value, None for no label."""
    found = LABEL.fullmatch(value) if isinstance(value, str) else None
    if found is None:
        return None
    seat = tuple(int(found.group(at)) for at in (1, 2, 3))
    near = [tuple(part.split(" ")) for part in found.group(4).removeprefix(" / ").split(" / ")]
    pieces = [int(piece) for piece, _ in near]
    if pieces[0] != seat[0] or seat[0] in pieces[1:] or pieces[1:] != sorted(set(pieces[1:])):
        return None
    if seat[1] == 0 and any("1" in signs[:3] for _, signs in near):
        return None
    if near[0][1][3 + seat[2]] == "1":
        return None
    return seat, tuple((int(piece), signs) for piece, signs in near)


def slow_tells(label, seat):
    """Whether a label tells a seat."""
    (_, layer, _), near = slow_label(label)
    for piece, signs in near:
        for at, sign in enumerate(signs):
            if sign == "1" and (piece, layer - 1 + at // 3, at % 3) == tuple(seat):
                return True
    return False


def slow_tied(one, other):
    """Whether two labels say that their places are tied."""
    return slow_tells(one, slow_label(other)[0]) or slow_tells(other, slow_label(one)[0])


def are_slow_labels(web, value):
    """Whether any value is a list of right labels."""
    if not is_row(value) or len(value) != web.many or not all(slow_label(label) for label in value):
        return False
    if len({slow_label(label)[0] for label in value}) < web.many:
        return False
    pairs = itertools.combinations(range(web.many), 2)
    return all(slow_tied(value[one], value[other]) is ((one + 1, other + 1) in web.ties) for one, other in pairs)


def bent_texts(text):
    """The texts that come of one by an item exchanged, put in, left out, or written otherwise."""
    items = text.split(" ")
    for at in range(len(items) + 1):
        for item in ("", "0", "1", "x", "/", "-"):
            yield " ".join(items[:at] + [item] + items[at:])
    for at, item in enumerate(items):
        yield " ".join(items[:at] + items[at + 1:])
        yield " ".join(items[:at] + items[at: at + 2][::-1] + items[at + 2:])
        for other in ("", "0", "1", "2", "3", "999", "1000", "1001", "-", "/", ":", "(", ")", "a", "A", "-1", "0" + item,
                      "+" + item, item + " ", item + "0", item[:-1], item[::-1], item + "\n", "\t" + item, "\u0661",
                      "1_0", "1.0", "000000000", "1" * 141):
            yield " ".join(items[:at] + [other] + items[at + 1:])
