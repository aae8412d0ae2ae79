"""When a house may be asked: work on limits, hours, rules and asks that are known to be right."""

ALWAYS = (1,)
MOST_ASKS = 6
WIDEST = 12


def opens(hours, moment):
    """Tell whether the house is open at the moment."""
    return hours[moment % len(hours)] == 1


def next_open(hours, moment):
    """Return the first open moment from this one on."""
    while not opens(hours, moment):
        moment += 1
    return moment


def keeps_apart(limits, asks, moment):
    """Tell whether an ask at the moment, behind the asks, is far enough from those ahead of it."""
    return all(len(asks) < most or moment - asks[-most] >= wide for most, wide in limits)


def first_wrong_ask(rules, asks):
    """Return the index of the first ask with which the asks are not polite any more; None."""
    limits, hours = rules
    for index, moment in enumerate(asks):
        if not opens(hours, moment) or not keeps_apart(limits, asks[:index], moment):
            return index
    return None


def next_ask(rules, asks, since):
    """Return the soonest moment from since on for one more ask behind the asks."""
    limits, hours = rules
    bounds = [asks[-most] + wide for most, wide in limits if len(asks) >= most]
    return next_open(hours, max(bounds + list(asks[-1:]) + [since]))


def soonest_asks(rules, asks, many, since):
    """Return the list of the soonest asks behind the asks, from since on."""
    rows = list(asks)
    for _ in range(many):
        rows.append(next_ask(rules, rows, since))
    return rows[len(asks):]


def most_between(rules, start, end):
    """Return how many of the soonest asks from start on are below end; None if there is no bound to them."""
    limits, hours = rules
    if not limits:
        return None if next_open(hours, start) < end else 0
    asks = []
    moment = next_ask(rules, asks, start)
    while moment < end:
        asks.append(moment)
        moment = next_ask(rules, asks, start)
    return len(asks)


def most_within(limits, moments):
    """Return the most asks in so many moments of a house that is always open; None if there is no most."""
    return most_between((limits, ALWAYS), 0, moments)


def tidied_pairs(limits):
    """Return the tidied form of any number of pairs of limits."""
    asks = soonest_asks((limits, ALWAYS), (), MOST_ASKS + 1, 0)
    kept = ()
    for most in range(1, MOST_ASKS + 1):
        # A pair is kept only where those with lesser numbers let its ask come sooner than it came.
        if asks[most] > soonest_asks((kept, ALWAYS), (), most + 1, 0)[most]:
            kept = kept + ((most, asks[most]),)
    return kept
