"""What counts as a whole number or a fraction, and work on tuples."""

from math import gcd


def is_whole(value):
    """Tell whether a value is a whole number; True and False are none."""
    return isinstance(value, int) and not isinstance(value, bool)


def is_between(value, low, high):
    """Tell whether a value is a whole number from low up to high."""
    return is_whole(value) and low <= value <= high


def is_fraction(value):
    """Tell whether a value is a fraction in lowest terms."""
    if not is_tuple(value, 2, 2):
        return False
    top, bottom = value
    return is_whole(top) and is_whole(bottom) and bottom > 0 and gcd(top, bottom) == 1


def is_tuple(value, low, high):
    """Tell whether a value is a tuple of low up to high elements, whatever these are."""
    return isinstance(value, tuple) and low <= len(value) <= high


def put_at(row, place, value):
    """Return the row with the value in the place of the element with this index."""
    return row[:place] + (value,) + row[place + 1:]
