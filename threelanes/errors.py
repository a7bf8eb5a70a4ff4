"""The errors of the package, each with its fields as they were passed."""


class LaneError(ValueError):
    """The base of all errors of the package; nothing is made of it alone."""


class BadNumber(LaneError):
    """What is no integer, or not within the bounds told for it."""

    def __init__(self, part):
        self.part = part


class BadWeb(LaneError):
    """What is no web, or no turns of one."""

    def __init__(self, part):
        self.part = part


class BadFace(LaneError):
    """What is no face, no ring or no door of a web."""

    def __init__(self, part):
        self.part = part


class BadColours(LaneError):
    """What are no colours."""

    def __init__(self, part):
        self.part = part


class BadTree(LaneError):
    """What is no tree of bags."""

    def __init__(self, part):
        self.part = part


class BadSeats(LaneError):
    """What is no seat, or no picture of seats."""

    def __init__(self, part):
        self.part = part


class BadWord(LaneError):
    """What is no word, or no lists of signs."""

    def __init__(self, part):
        self.part = part


class BadLabel(LaneError):
    """What is no label, or no part of one."""

    def __init__(self, part):
        self.part = part


class BadLot(LaneError):
    """What is no lot."""

    def __init__(self, part):
        self.part = part


class BadNames(LaneError):
    """What are no names, or no lines."""

    def __init__(self, part):
        self.part = part


class BadPaper(LaneError):
    """What is no paper of the kind that is wanted."""

    def __init__(self, part):
        self.part = part


class Misfit(LaneError):
    """What does not fit together with the rest."""

    def __init__(self, part):
        self.part = part


class NoName(LaneError):
    """A name of nothing that is kept."""

    def __init__(self, value):
        self.value = value


class Twice(LaneError):
    """A value that stands there already."""

    def __init__(self, value):
        self.value = value


class TooMany(LaneError):
    """There are more of something than most."""

    def __init__(self, what, most):
        self.what = what
        self.most = most


class BadText(LaneError):
    """A text in which an item cannot stand; line is always 0."""

    def __init__(self, line, item):
        self.line = line
        self.item = item


class BadLine(LaneError):
    """The number of a line, and the error that was raised there."""

    def __init__(self, line, error):
        self.line = line
        self.error = error
