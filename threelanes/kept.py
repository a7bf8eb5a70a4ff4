"""Webs that a desk keeps, with what was found of them."""

from threelanes.colourings import map_colours
from threelanes.labels import labels_of
from threelanes.seats import seated


class KeptWeb:
    """A flat web; its seats, labels and colours are found when they are asked for first."""

    def __init__(self, web):
        self.web = web
        self.found_seats = None
        self.found_labels = None
        self.found_colours = None

    def all_seats(self):
        """The Seats of the web."""
        if self.found_seats is None:
            self.found_seats = seated(self.web)
        return self.found_seats

    def all_labels(self):
        """The labels of all places."""
        if self.found_labels is None:
            self.found_labels = labels_of(self.web)
        return self.found_labels

    def all_colours(self):
        """The colours of all places."""
        if self.found_colours is None:
            self.found_colours = map_colours(self.web)
        return self.found_colours
