"""Webs: places, and ties that stand about each of them in turn."""

from threelanes.checks import is_list, is_lot, is_within
from threelanes.errors import BadNames, BadText, BadWeb
from threelanes.texts import items_of, number_in
from threelanes.wants import want_number

MOST_PLACES = 1000


class Web:
    """A web, told by the turns of its places, which are numbered from 1 on."""

    def __init__(self, turns):
        if not _are_turns(turns):
            raise BadWeb("turns")
        self.turns = tuple([tuple(turn) for turn in turns])
        self.many = len(self.turns)
        self.ties = _ties_of(self.turns)

    def __eq__(self, other):
        return isinstance(other, Web) and self.turns == other.turns

    def __str__(self):
        return " / ".join([_turn_text(turn) for turn in self.turns])

    @staticmethod
    def read(text):
        """The web with this text."""
        items = items_of(text)
        turns = _turns_in(items)
        if not _are_turns(turns):
            raise BadText(0, len(items) - 1)
        return Web(turns)

    def around(self, place):
        """The places tied to a place, in turn."""
        want_number(place, 1, self.many, "place")
        return self.turns[place - 1]

    def tied(self, one, other):
        """Whether two places are tied."""
        want_number(one, 1, self.many, "one")
        want_number(other, 1, self.many, "other")
        return other in self.turns[one - 1]


def want_web(web):
    """Raises BadWeb("web") for what is no web."""
    if not isinstance(web, Web):
        raise BadWeb("web")


def mirrored(web):
    """The web in which each turn is told in the opposite order."""
    want_web(web)
    return Web([turn[::-1] for turn in web.turns])


def renamed(web, names):
    """The web in which place v has the number names[v - 1]."""
    want_web(web)
    if not is_lot(names) or len(names) != web.many or max(names) > web.many:
        raise BadNames("names")
    turns = [()] * web.many
    for name, turn in zip(names, web.turns):
        turns[name - 1] = [names[place - 1] for place in turn]
    return Web(turns)


def next_in(turn, place):
    """The place just behind another one in a turn; behind the last comes the first."""
    return turn[(turn.index(place) + 1) % len(turn)]


def _are_turns(turns):
    """Whether any value is a list of turns that a web may have."""
    if not is_list(turns) or not is_within(len(turns), 1, MOST_PLACES):
        return False
    many = len(turns)
    if not all([_is_turn(turn, at + 1, many) for at, turn in enumerate(turns)]):
        return False
    # Dicts keep this quick where each of a thousand places is tied to all others.
    tied = [{other: True for other in turn} for turn in turns]
    return all([at + 1 in tied[other - 1] for at, turn in enumerate(turns) for other in turn])


def _is_turn(turn, place, many):
    """Whether any value is a list of unlike places without the place itself."""
    return is_lot(turn) and place not in turn and all([other <= many for other in turn])


def _ties_of(turns):
    """The pairs of tied places, the lesser one first, ascending."""
    return tuple([(at + 1, other) for at, turn in enumerate(turns) for other in sorted(turn) if other > at + 1])


def _turn_text(turn):
    """The text of a turn."""
    return " ".join([str(place) for place in turn]) if turn else "-"


def _turns_in(items):
    """The turns that items tell; what only the whole shows is not asked yet."""
    turns = [[]]
    begun = closed = False
    for index, item in enumerate(items):
        if item == "/" and begun and len(turns) < MOST_PLACES:
            turns.append([])
            begun = closed = False
        elif item == "-" and not begun:
            begun = closed = True
        else:
            place = number_in(item, 1, MOST_PLACES)
            if closed or place is None or place == len(turns) or place in turns[-1]:
                raise BadText(0, index)
            turns[-1].append(place)
            begun = True
    if not begun:
        raise BadText(0, len(items))
    return turns
