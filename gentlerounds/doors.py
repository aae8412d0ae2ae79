"""What the houses of a world let one crawler do: which addresses it may ask for, and when, behind its last asks."""

from gentlerounds.asking import MOST_ASKS, keeps_apart, next_ask, opens
from gentlerounds.decisions import is_let_by
from gentlerounds.files import paths_of, rules_of
from gentlerounds.worlds import house_in


class Doors:
    """Keeps of each house the path rows, the rules and the last asks, as many as any rules look back to."""

    def __init__(self, world, crawler):
        self.world = world
        self.crawler = crawler
        self.known = {}

    def _at(self, house):
        if house not in self.known:
            file = house_in(self.world, house)[1]
            self.known[house] = (paths_of(file, self.crawler), rules_of(file, self.crawler), [])
        return self.known[house]

    def admits(self, address):
        """Tell whether the crawler may ask for the address at all."""
        house, path = address
        return is_let_by(self._at(house)[0], path)

    def is_free(self, house, moment):
        """Tell whether the house may be asked at the moment, behind its last asks."""
        _, (limits, hours), last = self._at(house)
        return opens(hours, moment) and keeps_apart(limits, last, moment)

    def free_from(self, house, since):
        """Return the first moment from since on at which the house may be asked, behind its last asks."""
        _, rules, last = self._at(house)
        return next_ask(rules, last, since)

    def note(self, house, moment):
        """Note an ask of the house at the moment."""
        last = self._at(house)[2]
        last.append(moment)
        del last[:-MOST_ASKS]
