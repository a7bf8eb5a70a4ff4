"""Whether colours of webs are sound, and whether short ways see repeats."""

from threelanes.checks import is_just
from threelanes.errors import BadColours, Misfit, TooMany
from threelanes.papers import Denial, Paper
from threelanes.walks import is_walk, is_way
from threelanes.wants import want_number
from threelanes.webs import want_web
from threelanes.words import is_repeat, is_word

MOST_FOR_WALKS = 40
MOST_FOR_WAYS = 24
MOST_HALF = 4


class Sound(Paper):
    """Colours of a web are sound."""

    def __init__(self):
        super().__init__("sound")


class Echo(Denial):
    """A walk sees a repeat, and is never alike."""

    def __init__(self, walk):
        super().__init__("echo", walk)
        self.walk = self.parts[0]


class Free(Paper):
    """No way of at most twice so many places sees a repeat."""

    def __init__(self, most):
        super().__init__("free", most)
        self.most = self.parts[0]


class Repeat(Denial):
    """A way sees a repeat."""

    def __init__(self, way):
        super().__init__("repeat", way)
        self.way = self.parts[0]


def judged_walks(web, colours):
    """A Sound of sound colours of a web, or an Echo."""
    _want_web_and_word(web, colours)
    _want_fit(web, colours, MOST_FOR_WALKS)
    walk = _echo_walk(web, colours)
    return Sound() if walk is None else Echo(walk)


def shows_walks(web, colours, value):
    """Whether any value is a right Sound or Echo of colours of a web."""
    _want_web_and_word(web, colours)
    _want_fit(web, colours, MOST_FOR_WALKS)
    if isinstance(value, Echo):
        return is_walk(web, value.walk) and _sees_repeat(colours, value.walk) and _is_never_alike(value.walk)
    return isinstance(value, Sound) and _echo_walk(web, colours) is None


def judged_ways(web, colours, most):
    """A Free if no way of at most twice so many places sees a repeat, or a Repeat."""
    _want_ways(web, colours, most)
    way = _repeat_way(web, colours, most)
    return Free(most) if way is None else Repeat(way)


def shows_ways(web, colours, most, value):
    """Whether any value is a right Free or Repeat of colours of a web."""
    _want_ways(web, colours, most)
    if isinstance(value, Repeat):
        return is_way(web, value.way) and len(value.way) <= 2 * most and _sees_repeat(colours, value.way)
    return isinstance(value, Free) and is_just(value.most, most) and _repeat_way(web, colours, most) is None


def _want_web_and_word(web, colours):
    """Raises BadWeb("web"), or BadColours("colours") for no word."""
    want_web(web)
    if not is_word(colours):
        raise BadColours("colours")


def _want_fit(web, colours, most):
    """Raises errors unless there are as many colours as places, and not too many."""
    if len(colours) != web.many:
        raise Misfit("colours")
    if web.many > most:
        raise TooMany("places", most)


def _want_ways(web, colours, most):
    """Raises the errors of judged_ways."""
    _want_web_and_word(web, colours)
    want_number(most, 1, MOST_HALF, "most")
    _want_fit(web, colours, MOST_FOR_WAYS)


def _sees_repeat(colours, walk):
    """Whether a walk sees a repeat."""
    return is_repeat([colours[place - 1] for place in walk])


def _is_never_alike(walk):
    """Whether a walk is at no moment at one place both times."""
    half = len(walk) // 2
    return all([one != other for one, other in zip(walk[:half], walk[half:])])


def _pairs_alike(colours):
    """All pairs of unlike places of one colour."""
    marked = list(enumerate(colours, start=1))
    return [(one, other) for one, own in marked for other, shade in marked if one != other and own == shade]


def _near_places(web, colours):
    """For each place a dict: for each colour the places of this colour that are equal or tied to the place."""
    near = []
    for place, turn in enumerate(web.turns, start=1):
        shades = {}
        for other in (place, *turn):
            shades.setdefault(colours[other - 1], []).append(other)
        near.append(shades)
    return near


def _steps_from(near, pair):
    """All pairs of unlike places of one colour to which a step leads from a pair."""
    one, other = near[pair[0] - 1], near[pair[1] - 1]
    steps = [(here, there) for colour in one for here in one[colour] for there in other.get(colour, ())]
    return [step for step in steps if step[0] != step[1]]


def _echo_walk(web, colours):
    """A walk that sees a repeat and is never alike; None if there is none."""
    near = _near_places(web, colours)
    seen = {}
    for pair in _pairs_alike(colours):
        if pair not in seen:
            part = _pairs_from(near, pair)
            for step in part:
                seen[step] = True
            ends = _joining_ends(web, part)
            if ends is not None:
                return _walk_of(near, ends[0], ends[1])
    return None


def _pairs_from(near, pair):
    """All pairs to which steps lead from a pair, each with the one ahead of it."""
    ahead = {pair: None}
    last = [pair]
    while last:
        fresh = []
        for step in last:
            for further in _steps_from(near, step):
                if further not in ahead:
                    ahead[further] = step
                    fresh.append(further)
        last = fresh
    return ahead


def _joining_ends(web, pairs):
    """A first and a last pair, so that from the last one's first place one comes to the first one's second one."""
    firsts = {pair[0]: pair for pair in pairs}
    for pair in pairs:
        for place in (pair[1], *web.turns[pair[1] - 1]):
            if place in firsts:
                return pair, firsts[place]
    return None


def _walk_of(near, first, last):
    """The walk through the first places of all pairs from a first to a last one, then through their second ones."""
    # Steps lead back, too: so each pair knows the next one on the way to the last.
    ahead = _pairs_from(near, last)
    pairs = [first]
    while pairs[-1] != last:
        pairs.append(ahead[pairs[-1]])
    return [pair[0] for pair in pairs] + [pair[1] for pair in pairs]


def _repeat_way(web, colours, most):
    """A way of at most twice so many places that sees a repeat; None if there is none."""
    near = _near_places(web, colours)
    for one, other in _pairs_alike(colours):
        way = _way_on(web, near, ((one,), (other,)), most)
        if way is not None:
            return way
    return None


def _way_on(web, near, halves, most):
    """A way whose halves begin with the two that are told; None if there is none."""
    one, other = halves
    if other[0] in web.turns[one[-1] - 1]:
        return one + other
    if len(one) == most:
        return None
    for here, there in _steps_from(near, (one[-1], other[-1])):
        if here not in one + other and there not in one + other:
            way = _way_on(web, near, (one + (here,), other + (there,)), most)
            if way is not None:
                return way
    return None
