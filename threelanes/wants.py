"""Errors for arguments that are not what is wanted."""

from threelanes.checks import is_within
from threelanes.errors import BadNumber


def want_number(value, least, most, part):
    """Raises BadNumber(part) unless the value is an integer from least to most."""
    if not is_within(value, least, most):
        raise BadNumber(part)
