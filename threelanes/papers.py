"""Papers: an answer and what shows it."""

from threelanes.checks import is_list


def fixed(value):
    """The value with tuples in the place of lists, all the way in."""
    if is_list(value):
        return tuple([fixed(item) for item in value])
    return value


def _are_equal(paper, other):
    """Whether other is a paper of the same class with the same word and parts."""
    # Two classes of papers never have one name, so names stand for classes.
    if not isinstance(other, Paper) or paper.__class__.__name__ != other.__class__.__name__:
        return False
    return paper.word == other.word and paper.parts == other.parts


class Paper:
    """A paper; every one but a denial is true."""

    def __init__(self, word, *parts):
        self.word = word
        self.parts = fixed(parts)

    def __eq__(self, other):
        return _are_equal(self, other)

    def __bool__(self):
        return True


class Denial(Paper):
    """A paper that says no: it is false."""

    # The interface wants each of its methods in the class itself.
    def __init__(self, word, *parts):
        super().__init__(word, *parts)

    def __eq__(self, other):
        return _are_equal(self, other)

    def __bool__(self):
        return False
