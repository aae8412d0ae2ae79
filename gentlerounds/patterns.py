"""Patterns: their bodies, their places at a path, and the paths that they meet."""

from gentlerounds.errors import InvalidPattern, InvalidPatterns
from gentlerounds.names import SIGNS, check_path
from gentlerounds.standings import Machine, walked
from gentlerounds.values import is_tuple

LONGEST_PATTERN = 12
MOST_PATTERNS = 6
MOST_STARS = 4


def is_pattern(value):
    """Tell whether a value is a pattern."""
    if not isinstance(value, str) or not 1 <= len(value) <= LONGEST_PATTERN:
        return False
    inner = value.removesuffix("$")
    return inner.startswith("/") and all(sign == "*" or sign in SIGNS for sign in inner)


def check_pattern(given):
    """Raise InvalidPattern for what is no pattern."""
    if not is_pattern(given):
        raise InvalidPattern(given)


def check_patterns(given):
    """Raise InvalidPatterns for what is no tuple of patterns that may be passed together."""
    if not is_tuple(given, 0, MOST_PATTERNS):
        raise InvalidPatterns(None)
    stars = 0
    for index, pattern in enumerate(given):
        if not is_pattern(pattern):
            raise InvalidPatterns(index)
        stars += pattern.count("*")
        if stars > MOST_STARS:
            raise InvalidPatterns(index)


def body_of(pattern):
    """Return the body of a pattern."""
    check_pattern(pattern)
    if pattern.endswith("$"):
        return pattern[:-1]
    return pattern + "*"


def places(pattern, path):
    """Return the ascending tuple of the places of a pattern at a path."""
    machine = Machine([body_of(pattern)])
    check_path(path)
    return machine.places_of(machine.behind(path), 0)


def next_places(pattern, places, sign):
    """Return the places at a path with the sign behind it, of those at the path."""
    machine = Machine([body_of(pattern)])
    return machine.places_of(machine.step(machine.standing_of((places,)), sign), 0)


def meets(pattern, path):
    """Tell whether a pattern meets a path."""
    body = body_of(pattern)
    return len(body) in places(pattern, path)


def least_path(met, unmet):
    """Return the least path that each pattern of met meets and none of unmet; None if there is none."""
    check_patterns(met)
    check_patterns(unmet)
    return least_of_all(met, unmet)


def least_of_all(met, unmet):
    """Return what least_path tells, of patterns with any number of stars."""
    machine = Machine([body_of(pattern) for pattern in met + unmet])
    ends = sum(machine.ends)
    wanted = sum(machine.ends[:len(met)])
    return walked(machine, lambda standing: (standing & ends) == wanted)[0]


def covers(pattern, other):
    """Tell whether all paths that the other pattern meets are met by the pattern."""
    check_pattern(pattern)
    check_pattern(other)
    return least_of_all((other,), (pattern,)) is None


def are_apart(pattern, other):
    """Tell whether no path is met by both patterns."""
    check_pattern(pattern)
    check_pattern(other)
    return least_of_all((pattern, other), ()) is None
