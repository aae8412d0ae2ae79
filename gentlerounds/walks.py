"""Where a crawl stands behind the rows of its log, led on row by row."""

from gentlerounds.doors import Doors
from gentlerounds.logs import ASK, CUT
from gentlerounds.worlds import LOST, links_of, outcome_in


class Walk:
    """Keeps of each address where it stands, of the open asks their outcomes, and of each house the last asks.

    The rows that it takes have to be right, one behind the other.
    """

    def __init__(self, world, task):
        crawler, seeds, most, times, past = task
        self.world = world
        self.most = most
        self.times = times
        self.doors = Doors(world, crawler)
        self.met = {}
        self.waiting = {}
        self.away = {}
        self.answers = {}
        self.losses = {}
        self.now = 0
        self.made = 0
        self.is_cut = False
        for moment, house in past:
            self._come_to(moment)
            self._note(house)
        for address in seeds:
            self._meet(address)

    def _come_to(self, moment):
        if moment > self.now:
            self.now = moment
            self.made = 0

    def _note(self, house):
        self.made += 1
        self.doors.note(house, self.now)

    def _meet(self, address):
        if address not in self.met:
            self.met[address] = self.doors.admits(address)
            if self.met[address]:
                self.waiting[address] = True

    def take(self, row):
        """Take one more row of the log."""
        moment, address, event = row
        self._come_to(moment)
        self.is_cut = event == CUT
        if event == ASK:
            self._note(address[0])
            del self.waiting[address]
            due, outcome = outcome_in(self.world, address, moment)
            self.away[address] = (moment, due, outcome)
        else:
            del self.away[address]
            self._hear(address, event)

    def _hear(self, address, event):
        if event == LOST:
            self.losses[address] = self.lost(address) + 1
        if event in (LOST, CUT):
            if self.lost(address) <= self.times:
                self.waiting[address] = True
        else:
            self.answers[address] = event
            for link in links_of(event):
                self._meet(link)

    def lost(self, address):
        """Return how many answers of the address were lost."""
        return self.losses.get(address, 0)

    def place_of(self, address):
        """Return the word for where the address stands."""
        if address not in self.met:
            return "unmet"
        if not self.met[address]:
            return "barred"
        if address in self.away:
            return "away"
        if address in self.answers:
            return "answered"
        return "waiting" if address in self.waiting else "given up"

    def is_full(self, moment):
        """Tell whether as many asks as there may be were made at the moment, not below the last one."""
        return moment == self.now and self.made >= self.most

    def is_due_below(self, moment):
        """Tell whether an open ask was due at a moment below this one."""
        return any(due < moment for _, due, _ in self.away.values())

    def is_at_rest(self):
        """Tell whether no address waits and no ask is open."""
        return not self.waiting and not self.away

    def take_all(self, rows):
        """Take several rows."""
        for row in rows:
            self.take(row)


def walk_behind(crawl):
    """Return the walk behind the log of a crawl."""
    world, task, log, _ = crawl
    walk = Walk(world, task)
    walk.take_all(log)
    return walk
