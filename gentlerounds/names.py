"""Names, the signs of paths, and paths."""

from gentlerounds.errors import InvalidName, InvalidPath

LETTERS = "abcdefghijklmnopqrstuvwxyz"
SIGNS = "-./0123456789_abcdefghijklmnopqrstuvwxyz"
LONGEST_NAME = 12


def is_name(value):
    """Tell whether a value is a name."""
    if not isinstance(value, str) or not 1 <= len(value) <= LONGEST_NAME:
        return False
    return all(sign in LETTERS for sign in value)


def is_path(value):
    """Tell whether a value is a path."""
    if not isinstance(value, str) or not value.startswith("/"):
        return False
    return all(sign in SIGNS for sign in value)


def check_name(given):
    """Raise InvalidName for what is no name."""
    if not is_name(given):
        raise InvalidName(given)


def check_path(given):
    """Raise InvalidPath for what is no path."""
    if not is_path(given):
        raise InvalidPath(given)


def signs_of_paths():
    """Return all signs of paths, in their order."""
    return SIGNS


def is_lesser(path, other):
    """Tell whether the path is less than the other one: shorter, or as short and ahead in order."""
    check_path(path)
    check_path(other)
    return (len(path), path) < (len(other), other)
