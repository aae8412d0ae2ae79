"""What the acts of a set-up do: which are let at a standing, where they lead, and what that is worth.

All work here is on set-ups and standings that are known to be right.
"""

from itertools import combinations
from math import lcm

from gentlerounds.monitors import room, shifted, span_of
from gentlerounds.sums import lowest
from gentlerounds.values import is_whole


def period_in(houses):
    """Return the least number of moments after which the hours of all houses begin anew together."""
    period = 1
    for _, hours in houses:
        period = lcm(period, len(hours))
    return period


def asks_in(act, pages, houses):
    """Return for each of so many houses how many of its pages stand in the act."""
    homes = [pages[page][0] for page in act]
    return tuple([homes.count(house) for house in range(houses)])


def scale_of(pages):
    """Return into how many parts one is parted, so that all worths are whole numbers of these parts."""
    scale = 1
    for _, worths in pages:
        for _, bottom in worths:
            scale = lcm(scale, bottom)
    return scale


def whole_worths(worths, scale):
    """Return the worths of the ages of a page, counted in parts, and 0 for the greatest age."""
    return [top * (scale // bottom) for top, bottom in worths] + [0]


class Moves:
    """Goes from standing to standing of one set-up; worths are whole numbers of parts here."""

    def __init__(self, setup):
        houses, pages, most = setup
        self.setup = setup
        self.period = period_in(houses)
        self.scale = scale_of(pages)
        self.worths = [whole_worths(worths, self.scale) for _, worths in pages]
        indexes = list(range(len(pages)))
        acts = sorted([act for many in range(most + 1) for act in combinations(indexes, many)])
        self.acts = [(act, asks_in(act, pages, len(houses))) for act in acts]
        self.known = {}

    def first(self):
        """Return the begun standing."""
        houses, pages, _ = self.setup
        counts = [(0,) * span_of(limits) for limits, _ in houses]
        return (0, tuple(counts), tuple([len(worths) for _, worths in pages]))

    def worth(self, standing):
        """Return what the copies of all pages are worth, in parts."""
        return sum([worths[age] for worths, age in zip(self.worths, standing[2])])

    def fraction(self, parts):
        """Return so many parts as a fraction."""
        return lowest(parts, self.scale)

    def ways(self, standing):
        """Return of all acts that are let at the standing, ascending, triples: act, standing behind it, worth."""
        if standing not in self.known:
            clock, counts, _ = standing
            rooms = [room(rules, clock, count) for rules, count in zip(self.setup[0], counts)]
            self.known[standing] = [self._way(standing, act, asks) for act, asks in self.acts if are_in(asks, rooms)]
        return self.known[standing]

    def _way(self, standing, act, asks):
        clock, counts, ages = standing
        newer = [0 if page in act else min(age + 1, len(self.worths[page]) - 1) for page, age in enumerate(ages)]
        later = tuple([shifted(count, many, 1) for count, many in zip(counts, asks)])
        further = ((clock + 1) % self.period, later, tuple(newer))
        return act, further, self.worth(further)

    def behind(self, standing, value):
        """Return the standing to which a value leads as an act; None if it is no act that is let there."""
        if not isinstance(value, tuple) or not all(is_whole(page) for page in value):
            return None
        for act, further, _ in self.ways(standing):
            if act == value:
                return further
        return None

    def trail(self, standing, acts):
        """Return the list of the standing and of those behind the acts, as far as these are let."""
        standings = [standing]
        for act in acts:
            further = self.behind(standings[-1], act)
            if further is None:
                break
            standings.append(further)
        return standings


def are_in(asks, rooms):
    """Tell whether there is room in each house for as many asks; a house without a bound has None."""
    return all(left is None or many <= left for many, left in zip(asks, rooms))
