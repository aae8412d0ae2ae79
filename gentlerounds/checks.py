"""Checks of numbers that several modules share."""

from gentlerounds.errors import InvalidNumber
from gentlerounds.values import is_between, is_whole


def check_from(given, low):
    """Raise InvalidNumber for what is no whole number from low on."""
    if not is_whole(given) or given < low:
        raise InvalidNumber(given)


def check_between(given, low, high):
    """Raise InvalidNumber for what is no whole number from low up to high."""
    if not is_between(given, low, high):
        raise InvalidNumber(given)
