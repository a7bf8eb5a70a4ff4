"""Desks: they keep flat webs by names, and answer lines."""

from threelanes.checks import is_list
from threelanes.desk_lines import line_in
from threelanes.errors import BadLine, BadNames, LaneError, Misfit, NoName, Twice
from threelanes.faces import is_flat, judged_flat
from threelanes.kept import KeptWeb
from threelanes.labels import are_tied
from threelanes.lots import shares_of
from threelanes.makes import flipped, floor, put_in, ring, wheel
from threelanes.seats import are_near
from threelanes.walks import is_way
from threelanes.webs import mirrored


def _given_web(values):
    """The web of a line with a text."""
    if not is_flat(values[0]):
        raise Misfit("web")
    return values[0]


def _ring_web(values):
    """The web of a line with ring."""
    return ring(values[0])


def _wheel_web(values):
    """The web of a line with wheel."""
    return wheel(values[0])


def _floor_web(values):
    """The web of a line with floor."""
    return floor(values[0], values[1])


def _same_web(values):
    """The web of a line with copy."""
    return values[0]


def _mirrored_web(values):
    """The web of a line with mirror."""
    return mirrored(values[0])


def _put_web(web, places):
    """The web with one more place."""
    return put_in(web, places)


def _flipped_web(web, places):
    """The web with a tie flipped."""
    return flipped(web, places[0], places[1])


def _seat_of(kept, places):
    """The seat of a place."""
    return _numbers_text(kept.all_seats().seats[places[0] - 1])


def _near_answer(kept, places):
    """Whether the seats of two places are near."""
    told = kept.all_seats()
    return _yes_or_no(are_near(told, told.seats[places[0] - 1], told.seats[places[1] - 1]))


def _label_of(kept, places):
    """The label of a place."""
    return kept.all_labels()[places[0] - 1]


def _tied_answer(kept, places):
    """Whether the labels of two places say that these are tied."""
    labels = kept.all_labels()
    return _yes_or_no(are_tied(labels[places[0] - 1], labels[places[1] - 1]))


def _colours_of(kept, places):
    """The colours of some places."""
    colours = kept.all_colours()
    return _numbers_text([colours[place - 1] for place in places])


def _colours_on_way(kept, places):
    """The colours of the places of a way."""
    told = _colours_of(kept, places)
    if not is_way(kept.web, places):
        raise Misfit("way")
    return told


def _shares_answer(kept, values):
    """How many places each of the shares has."""
    return _numbers_text([len(lot) for lot in shares_of(kept.web, values[0]).lots])


MAKERS = {
    "web": _given_web,
    "ring": _ring_web,
    "wheel": _wheel_web,
    "floor": _floor_web,
    "copy": _same_web,
    "mirror": _mirrored_web,
}
CHANGERS = {"put": _put_web, "flip": _flipped_web}
ANSWERERS = {
    "seat": _seat_of,
    "near": _near_answer,
    "label": _label_of,
    "tied": _tied_answer,
    "colour": _colours_of,
    "sees": _colours_on_way,
    "lots": _shares_answer,
}


class Desk:
    """Keeps flat webs by names, and answers lines."""

    def __init__(self):
        self.kept = {}
        self.told = []

    @staticmethod
    def read(lines):
        """The desk that is told some lines, one behind another."""
        if not is_list(lines) or not all([isinstance(line, str) for line in lines]):
            raise BadNames("lines")
        desk = Desk()
        for at, line in enumerate(lines):
            try:
                desk.tell(line)
            except LaneError as error:
                raise BadLine(at, error)
        return desk

    def tell(self, line):
        """Does what a line says, and tells its answer."""
        word, name, values = line_in(line)
        if word in MAKERS:
            answer = self._keep(word, name, values)
        elif word == "drop":
            answer = self._drop(name)
        else:
            answer = self._ask(word, name, values)
        self.told.append(line)
        return answer

    def names(self):
        """All names that are kept, ascending."""
        return tuple(sorted(self.kept))

    def lines(self):
        """The lines that were told and raised nothing, in their order."""
        return tuple(self.told)

    def _found(self, name):
        """What is kept by a name."""
        if name not in self.kept:
            raise NoName(name)
        return self.kept[name]

    def _keep(self, word, name, values):
        """Keeps the web that a line makes."""
        if name in self.kept:
            raise Twice(name)
        if word in ("copy", "mirror"):
            values = [self._found(values[0]).web]
        maker = MAKERS[word]
        return self._put_down(name, maker(values))

    def _ask(self, word, name, values):
        """Changes a web that is kept, or asks for something of it."""
        kept = self._found(name)
        if word != "lots":
            _want_places(kept.web, values)
        if word in CHANGERS:
            changer = CHANGERS[word]
            return self._put_down(name, changer(kept.web, values))
        answerer = ANSWERERS[word]
        return answerer(kept, values)

    def _put_down(self, name, web):
        """Keeps a flat web by a name, and tells its numbers."""
        answer = _numbers_text(judged_flat(web).parts)
        self.kept[name] = KeptWeb(web)
        return answer

    def _drop(self, name):
        """Keeps a web no more."""
        self._found(name)
        del self.kept[name]
        return name


def _want_places(web, places):
    """Raises NoName for the first number that is none of a place."""
    for place in places:
        if place > web.many:
            raise NoName(place)


def _numbers_text(numbers):
    """Numbers with blanks between."""
    return " ".join([str(number) for number in numbers])


def _yes_or_no(answer):
    """The word for a truth."""
    return "yes" if answer else "no"
