"""Limits, hours and rules: which asks are polite, the soonest asks, and the most that there may be."""

from gentlerounds.asking import MOST_ASKS, WIDEST, first_wrong_ask, keeps_apart, opens, soonest_asks
from gentlerounds.asking import most_between, most_within, tidied_pairs
from gentlerounds.checks import check_between, check_from
from gentlerounds.errors import InvalidAsks, InvalidHours, InvalidLimits, InvalidNumber, InvalidRules
from gentlerounds.errors import NotPolite, TooMany
from gentlerounds.values import is_between, is_tuple, is_whole

MOST_PAIRS = 4
LONGEST_ROW = 200
MOST_MOMENTS = 100


def is_limit(value):
    """Tell whether a value is a pair of LIMITS."""
    return is_tuple(value, 2, 2) and is_between(value[0], 1, MOST_ASKS) and is_between(value[1], 1, WIDEST)


def are_limits(value):
    """Tell whether a value is LIMITS."""
    return is_tuple(value, 0, MOST_PAIRS) and all(is_limit(pair) for pair in value)


def are_hours(value):
    """Tell whether a value is HOURS."""
    return is_tuple(value, 1, WIDEST) and all(is_between(hour, 0, 1) for hour in value) and 1 in value


def are_rules(value):
    """Tell whether a value is RULES."""
    return is_tuple(value, 2, 2) and are_limits(value[0]) and are_hours(value[1])


def check_limits(given):
    """Raise InvalidLimits for what is no LIMITS."""
    if not are_limits(given):
        raise InvalidLimits(given)


def check_hours(given):
    """Raise InvalidHours for what is no HOURS."""
    if not are_hours(given):
        raise InvalidHours(given)


def check_rules(given):
    """Raise InvalidRules for what is no RULES."""
    if not are_rules(given):
        raise InvalidRules(given)


def first_back(values):
    """Return the index of the first element that is no moment or is below the one ahead of it; None."""
    least = 0
    for index, moment in enumerate(values):
        if not is_whole(moment) or moment < least:
            return index
        least = moment
    return None


def are_asks(value):
    """Tell whether a value is asks that may be passed."""
    return is_tuple(value, 0, LONGEST_ROW) and first_back(value) is None


def check_asks(given):
    """Raise InvalidAsks for what is no tuple of asks that may be passed."""
    if not is_tuple(given, 0, LONGEST_ROW):
        raise InvalidAsks(None)
    index = first_back(given)
    if index is not None:
        raise InvalidAsks(index)


def check_polite(rules, asks):
    """Raise NotPolite for asks that are not polite."""
    index = first_wrong_ask(rules, asks)
    if index is not None:
        raise NotPolite(index)


def check_amount(given):
    """Raise InvalidNumber for what is no number of moments or asks that may be passed."""
    check_between(given, 0, MOST_MOMENTS)


def is_open(hours, moment):
    """Tell whether a house with these hours is open at the moment."""
    check_hours(hours)
    check_from(moment, 0)
    return opens(hours, moment)


def is_polite(rules, asks):
    """Tell whether the asks are polite for the rules."""
    return first_wrong(rules, asks) is None


def first_wrong(rules, asks):
    """Return the index of the first wrong ask; None."""
    check_rules(rules)
    check_asks(asks)
    return first_wrong_ask(rules, asks)


def may_ask(rules, asks, moment):
    """Tell whether the asks with one more at the moment are polite."""
    check_rules(rules)
    check_asks(asks)
    check_from(moment, 0)
    if asks and moment < asks[-1]:
        raise InvalidNumber(moment)
    check_polite(rules, asks)
    limits, hours = rules
    return opens(hours, moment) and keeps_apart(limits, asks, moment)


def soonest(rules, asks, many, *, since=0):
    """Return the tuple of so many soonest asks behind the asks, from since on."""
    check_rules(rules)
    check_asks(asks)
    check_amount(many)
    check_from(since, 0)
    check_polite(rules, asks)
    return tuple(soonest_asks(rules, asks, many, since))


def most(limits, moments):
    """Return the most asks in so many moments; None if there is no most."""
    check_limits(limits)
    check_amount(moments)
    return most_within(limits, moments)


def most_from(rules, moment, moments):
    """Return the most asks in so many moments from the moment on; None if there is no most."""
    check_rules(rules)
    check_from(moment, 0)
    check_amount(moments)
    return most_between(rules, moment, moment + moments)


def most_table(limits):
    """Return the most for 1, 2, .., 12 moments."""
    check_limits(limits)
    return tuple([most_within(limits, moments) for moments in range(1, WIDEST + 1)])


def tidied(limits):
    """Return the tidied limits."""
    check_limits(limits)
    return tidied_pairs(limits)


def tidied_hours(hours):
    """Return the shortest hours that are open at the same moments."""
    check_hours(hours)
    many = len(hours)
    shorter = [size for size in range(1, many) if hours[:size] * (many // size) == hours]
    return hours[:min(shorter, default=many)]


def joined(limits, other):
    """Return the tidied limits of the pairs of both together."""
    check_limits(limits)
    check_limits(other)
    pairs = tidied_pairs(limits + other)
    if len(pairs) > MOST_PAIRS:
        raise TooMany()
    return pairs
