"""Checks of numbers and moments that several modules share."""

from gentlerounds.errors import InvalidMoment, InvalidNumber
from gentlerounds.values import is_between, is_whole

LAST_MOMENT = 999999999999


def check_from(given, low):
    """Raise InvalidNumber for what is no whole number from low on."""
    if not is_whole(given) or given < low:
        raise InvalidNumber(given)


def check_between(given, low, high):
    """Raise InvalidNumber for what is no whole number from low up to high."""
    if not is_between(given, low, high):
        raise InvalidNumber(given)


def is_moment(value):
    """Tell whether a value is a moment of a world."""
    return is_between(value, 0, LAST_MOMENT)


def check_moment(given):
    """Raise InvalidMoment for what is no moment of a world."""
    if not is_moment(given):
        raise InvalidMoment(given)
