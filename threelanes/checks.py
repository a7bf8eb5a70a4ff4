"""Checks of any values: integers, bounds, lists, lots."""


def is_integer(value):
    """Whether the value is an integer; True and False are none."""
    return isinstance(value, int) and not isinstance(value, bool)


def is_within(value, least, most):
    """Whether the value is an integer from least to most; None is no bound."""
    if not is_integer(value):
        return False
    return (least is None or value >= least) and (most is None or value <= most)


def is_list(value):
    """Whether the value is a list or a tuple, which stand for one another."""
    return isinstance(value, (list, tuple))


def is_row(value, least, most):
    """Whether the value is a list, perhaps of none, of integers from least to most."""
    return is_list(value) and all([is_within(item, least, most) for item in value])


def are_unlike(value, least):
    """Whether the value is a list, perhaps of none, of unlike integers from least on."""
    return is_row(value, least, None) and len(set(value)) == len(value)


def is_lot(value):
    """Whether the value is a list, perhaps of none, of unlike integers from 1 on."""
    return are_unlike(value, 1)


def is_just(value, wanted):
    """Whether the value is what is wanted, made of lists and integers: nothing else stands for a number."""
    if not is_list(wanted):
        return is_integer(value) and value == wanted
    if not is_list(value) or len(value) != len(wanted):
        return False
    return all([is_just(item, own) for item, own in zip(value, wanted)])
