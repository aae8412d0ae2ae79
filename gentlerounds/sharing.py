"""Which rules are stricter than others, and crawlers with clocks of their own that ask one house."""

from math import lcm

from gentlerounds.asking import ALWAYS, WIDEST, first_wrong_ask, most_between, most_within, opens, soonest_asks
from gentlerounds.asking import tidied_pairs
from gentlerounds.checks import check_between
from gentlerounds.errors import InvalidParts, InvalidRows, NoShare
from gentlerounds.limits import LONGEST_ROW, are_limits, check_limits, check_rules, first_back
from gentlerounds.values import is_between, is_tuple

MOST_PARTS = 6
LATEST = 24


def is_stricter(rules, other):
    """Tell whether all asks that are polite for the rules are polite for the others."""
    return loose_row(rules, other) is None


def loose_row(rules, other):
    """Return asks that are polite for the rules and not for the others; None if there are none."""
    check_rules(rules)
    check_rules(other)
    row = row_while_closed(rules[1], other[1])
    if row is None:
        row = row_of_too_many(rules, other[0])
    return row


def row_while_closed(hours, other):
    """Return one ask while only the first hours are open; None."""
    for moment in range(lcm(len(hours), len(other))):
        if opens(hours, moment) and not opens(other, moment):
            return (moment,)
    return None


def row_of_too_many(rules, limits):
    """Return asks that are polite for the rules and too many for one of the limits; None."""
    for start in range(len(rules[1])):
        for most, wide in limits:
            told = most_between(rules, start, start + wide)
            if told is None or told > most:
                return tuple(soonest_asks(rules, (), most + 1, start))
    return None


def are_alike_limits(limits, other):
    """Tell whether the same asks are polite for both, always open."""
    check_limits(limits)
    check_limits(other)
    return tidied_pairs(limits) == tidied_pairs(other)


def are_alike_rules(rules, other):
    """Tell whether the same asks are polite for both."""
    return is_stricter(rules, other) and is_stricter(other, rules)


def is_part(value):
    """Tell whether a value is a part: limits, and how late its asks may come."""
    return is_tuple(value, 2, 2) and are_limits(value[0]) and is_between(value[1], 0, LATEST)


def check_parts(given):
    """Raise InvalidParts for what is no tuple of parts."""
    if not is_tuple(given, 1, MOST_PARTS):
        raise InvalidParts(None)
    for index, part in enumerate(given):
        if not is_part(part):
            raise InvalidParts(index)


def broken_limit(parts, shared):
    """Return the first pair of shared limits that the parts together may break; None."""
    for pair in shared:
        most, wide = pair
        told = [most_within(limits, wide + late) for limits, late in parts]
        if None in told or sum(told) > most:
            return pair
    return None


def keep(parts, shared):
    """Tell whether all rows of the parts together come politely to a house with the shared limits."""
    check_parts(parts)
    check_limits(shared)
    return broken_limit(parts, shared) is None


def breaking(parts, shared):
    """Return one row of each part with which they do not come politely; None if they always do."""
    check_parts(parts)
    check_limits(shared)
    broken = broken_limit(parts, shared)
    if broken is None:
        return None
    most, wide = broken
    meeting = max([late for _, late in parts])
    # One ask more than the limit lets is enough of each part, and keeps the rows short.
    return tuple([crowded_row(part, meeting, wide, most + 1) for part in parts])


def crowded_row(part, meeting, wide, many):
    """Return a row of the part of which all comes in so many moments from the meeting on."""
    limits, late = part
    asks = soonest_asks((limits, ALWAYS), (), many, meeting - late)
    return tuple([(asked, max(asked, meeting)) for asked in asks if asked < meeting + wide])


def arrivals(parts, rows):
    """Return all moments at which asks come, in order."""
    check_parts(parts)
    if not is_tuple(rows, len(parts), len(parts)):
        raise InvalidRows(None)
    for index, row in enumerate(rows):
        if not is_row_of(parts[index], row):
            raise InvalidRows(index)
    return tuple(sorted([come for row in rows for _, come in row]))


def is_row_of(part, value):
    """Tell whether a value is a row of the part that may be passed."""
    if not is_tuple(value, 0, LONGEST_ROW) or not all(is_tuple(pair, 2, 2) for pair in value):
        return False
    limits, late = part
    asked = [pair[0] for pair in value]
    come = [pair[1] for pair in value]
    if first_back(asked) is not None or first_back(come) is not None:
        return False
    if not all(is_between(then, now, now + late) for now, then in value):
        return False
    return first_wrong_ask((limits, ALWAYS), asked) is None


def dealt(shared, many, late):
    """Return the limits of each of so many crawlers among which the shared limits are dealt out."""
    check_limits(shared)
    check_between(many, 1, MOST_PARTS)
    check_between(late, 0, LATEST)
    if any(most < many or wide + late > WIDEST for most, wide in shared):
        raise NoShare()
    return tuple([share_of(shared, many, late, crawler) for crawler in range(many)])


def share_of(shared, many, late, crawler):
    """Return what the crawler with this index gets of the shared limits."""
    pairs = []
    for most, wide in shared:
        more = 1 if crawler < most % many else 0
        pairs.append((most // many + more, wide + late))
    return tuple(pairs)


def most_crawlers(limits, late, shared):
    """Return the greatest number of crawlers with these limits that keep the shared ones; None if any number does."""
    check_limits(limits)
    check_between(late, 0, LATEST)
    check_limits(shared)
    if not shared:
        return None
    if not limits:
        return 0
    return min([most // most_within(limits, wide + late) for most, wide in shared])
