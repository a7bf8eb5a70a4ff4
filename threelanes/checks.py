"""Checks of any values: integers, bounds, lists, lots."""


def is_integer(value):
    """Whether the value is an integer; True and False are none."""
    return isinstance(value, int) and not isinstance(value, bool)


def is_within(value, least, most):
    """Whether the value is an integer from least to most; None is no bound."""
    if not is_integer(value):
        return False
    return (least is None or value >= least) and (most is None or value <= most)


def is_list(value):
    """Whether the value is a list or a tuple, which stand for one another."""
    return isinstance(value, (list, tuple))


def is_lot(value):
    """Whether the value is a list, perhaps of none, of unlike integers from 1 on."""
    if not is_list(value) or not all([is_within(item, 1, None) for item in value]):
        return False
    return len(set(value)) == len(value)
