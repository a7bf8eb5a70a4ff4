"""Whether labels of webs are right."""

from threelanes.checks import is_list
from threelanes.fills import want_flat
from threelanes.labels import label_in, say_tied


def shows_labels(web, value):
    """Whether any value is a list of right labels for the places of a flat web."""
    want_flat(web)
    if not is_list(value) or len(value) != web.many:
        return False
    labels = [label_in(label) for label in value]
    if not all([label is not None for label in labels]):
        return False
    if len(set([seat for seat, _ in labels])) < web.many:
        return False
    tied = {tie: True for tie in web.ties}
    places = list(enumerate(labels, start=1))
    return all([
        say_tied(label, further) == ((one, other) in tied)
        for one, label in places
        for other, further in places[one:]
    ])
