"""Monitors: politeness judged moment by moment, by the numbers of asks at the last moments alone."""

from gentlerounds.asking import opens, soonest_asks
from gentlerounds.checks import check_from
from gentlerounds.errors import Barred, InvalidCounts, InvalidNumber
from gentlerounds.limits import check_amount, check_asks, check_limits, check_polite, check_rules
from gentlerounds.values import is_tuple, is_whole


def span_of(limits):
    """Return how many moments back the counts go."""
    return max([wide for _, wide in limits], default=1) - 1


def fit(limits, value):
    """Tell whether a value is counts that fit the limits."""
    span = span_of(limits)
    if not is_tuple(value, span, span) or not all(is_whole(many) and many >= 0 for many in value):
        return False
    # A window cut short at the end asks less than the whole one ahead of it, or it is all counts together.
    return all([sum(value[at:at + wide]) <= most for most, wide in limits for at in range(span)])


def room(rules, moment, counts):
    """Return the greatest number of asks that the monitor lets at the moment; None if it lets any number."""
    limits, hours = rules
    if not opens(hours, moment):
        return 0
    return min([most - sum(counts[:wide - 1]) for most, wide in limits], default=None)


def has_room(rules, moment, counts, many):
    """Tell whether the monitor lets so many asks at the moment."""
    left = room(rules, moment, counts)
    return left is None or many <= left


def shifted(counts, many, moments):
    """Return the counts so many moments further on, many asks made at the first of them and none behind it."""
    span = len(counts)
    waited = min(moments - 1, span)
    return ((0,) * waited + (many,) + counts)[:span]


def are_counts(limits, value):
    """Tell whether a value is counts that fit the limits."""
    check_limits(limits)
    return fit(limits, value)


def check_counts(limits, given):
    """Raise InvalidCounts for what is no counts that fit the limits."""
    if not fit(limits, given):
        raise InvalidCounts(given)


def check_place(rules, moment, counts):
    """Raise the error of the first of the three that is wrong."""
    check_rules(rules)
    check_from(moment, 0)
    check_counts(rules[0], counts)


def counts_at(rules, asks, moment):
    """Return the counts at the moment behind the asks."""
    check_rules(rules)
    check_asks(asks)
    check_from(moment, 0)
    if asks and moment <= asks[-1]:
        raise InvalidNumber(moment)
    check_polite(rules, asks)
    return tuple([asks.count(moment - back) for back in range(1, span_of(rules[0]) + 1)])


def most_now(rules, moment, counts):
    """Return the greatest number of asks that the monitor lets at the moment; None if it lets any number."""
    check_place(rules, moment, counts)
    return room(rules, moment, counts)


def lets(rules, moment, counts, many):
    """Tell whether the monitor lets so many asks at the moment."""
    check_place(rules, moment, counts)
    check_amount(many)
    return has_room(rules, moment, counts, many)


def next_counts(rules, moment, counts, many):
    """Return the counts at the moment behind this one, so many asks made at this one."""
    if not lets(rules, moment, counts, many):
        raise Barred()
    return shifted(counts, many, 1)


def wait(rules, moment, counts):
    """Return how many moments without asks there are until the monitor lets an ask."""
    check_place(rules, moment, counts)
    waited = 0
    while not has_room(rules, moment + waited, counts, 1):
        counts = shifted(counts, 0, 1)
        waited += 1
    return waited


class Monitor:
    """Stands at a moment, and lets and counts the asks from there on."""

    def __init__(self, rules, *, moment=0):
        check_rules(rules)
        check_from(moment, 0)
        self._rules = rules
        self._moment = moment
        self._counts = (0,) * span_of(rules[0])
        self._asked = 0
        self._earlier = []

    @property
    def rules(self):
        """The rules that it was made with."""
        return self._rules

    @property
    def moment(self):
        """The moment at which it stands."""
        return self._moment

    @property
    def counts(self):
        """The counts at its moment."""
        return self._counts

    @property
    def asked(self):
        """How many asks there were at its moment so far."""
        return self._asked

    def _check(self, moment, many):
        check_from(moment, self._moment)
        check_amount(many)

    def _counts_then(self, moment):
        if moment == self._moment:
            return self._counts
        return shifted(self._counts, self._asked, moment - self._moment)

    def _asked_then(self, moment):
        return self._asked if moment == self._moment else 0

    def lets(self, moment, many=1):
        """Tell whether so many asks more are polite at the moment."""
        self._check(moment, many)
        return has_room(self._rules, moment, self._counts_then(moment), self._asked_then(moment) + many)

    def ask(self, moment, many=1):
        """Ask so often at the moment, and stand there."""
        if not self.lets(moment, many):
            raise Barred()
        counts = self._counts_then(moment)
        asked = self._asked_then(moment) + many
        self._earlier.append((self._moment, self._counts, self._asked))
        self._moment = moment
        self._counts = counts
        self._asked = asked

    def soonest(self, many=1):
        """Return the tuple of so many soonest asks from its moment on, behind all that were asked."""
        check_amount(many)
        asks = []
        for back in range(len(self._counts), 0, -1):
            asks.extend([self._moment - back] * self._counts[back - 1])
        asks.extend([self._moment] * self._asked)
        return tuple(soonest_asks(self._rules, asks, many, self._moment))

    def undo(self):
        """Lead back to what was ahead of the last ask; tell whether there was one."""
        if not self._earlier:
            return False
        self._moment, self._counts, self._asked = self._earlier.pop()
        return True
