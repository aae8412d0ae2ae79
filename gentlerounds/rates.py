"""The greatest mean that a set-up's acts can keep up, with a ring and with potentials that show it."""

from gentlerounds.bounds import ways_to
from gentlerounds.errors import TooMany
from gentlerounds.moves import Moves
from gentlerounds.sums import lowest


class Net:
    """The standings that are reached, each known by its place in a row, and the ways between these places."""

    def __init__(self, setup):
        self.moves = Moves(setup)
        self.found = ways_to(self.moves)
        if self.found is None:
            raise TooMany()
        self.standings = list(self.found)
        self.places = {standing: place for place, standing in enumerate(self.standings)}
        self.leads = [self._leads_from(standing) for standing in self.standings]

    def _leads_from(self, standing):
        return [(self.places[further], worth) for _, further, worth in self.moves.ways(standing)]

    def _act(self, place, choice):
        return self.moves.ways(self.standings[place])[choice][0]

    def ring(self, turn):
        """Return the ring whose round is told by pairs of a place and of the way that is chosen there."""
        way = []
        came = self.found[self.standings[turn[0][0]]]
        while came is not None:
            way.append(came[1])
            came = self.found[came[0]]
        return tuple(way[::-1]), tuple([self._act(place, choice) for place, choice in turn])

    def waiting_turn(self):
        """Return the round from the begun standing without any asks."""
        turn = [(0, 0)]
        while self.leads[turn[-1][0]][0][0] != 0:
            turn.append((self.leads[turn[-1][0]][0][0], 0))
        return turn

    def mean(self, turn):
        """Return the mean worth of a round, in parts."""
        return lowest(sum([self.leads[place][choice][1] for place, choice in turn]), len(turn))


def lift(leads, rate, gains, choices):
    """Lift each gain to the greatest one that a way and the gain behind it come to; tell whether any was lifted."""
    top, bottom = rate
    is_lifted = False
    for place, ways in enumerate(leads):
        for choice, (further, worth) in enumerate(ways):
            gain = worth * bottom - top + gains[further]
            if gain > gains[place]:
                gains[place] = gain
                choices[place] = choice
                is_lifted = True
    return is_lifted


def turn_in(leads, choices):
    """Return a round that the choices lead, as pairs of a place and its choice; [] if they lead none."""
    is_passed = [False for _ in choices]
    for start in range(len(choices)):
        trail = []
        place = start
        while choices[place] is not None and not is_passed[place]:
            is_passed[place] = True
            trail.append(place)
            place = leads[place][choices[place]][0]
        if place in trail:
            return [(one, choices[one]) for one in trail[trail.index(place):]]
    return []


def lifted_whole(leads, rate):
    """Return the greatest gains above the rate and []; or any gains and a round whose mean is above the rate."""
    gains = [0 for _ in leads]
    choices = [None for _ in leads]
    turn = []
    # While gains rise the choices may come to lead round: what is gained by such a round is above the rate,
    # and without one no gain rises further than the ways without any round lead.
    while not turn and lift(leads, rate, gains, choices):
        turn = turn_in(leads, choices)
    return gains, turn


def solved(setup):
    """Return the rate, a dict of the least potentials of the standings that are reached, and a ring of the rate."""
    net = Net(setup)
    turn = net.waiting_turn()
    better = turn
    while better:
        turn = better
        rate = net.mean(turn)
        gains, better = lifted_whole(net.leads, rate)
    top, bottom = rate
    parts = bottom * net.moves.scale
    potentials = {standing: lowest(gain, parts) for standing, gain in zip(net.standings, gains)}
    return lowest(top, parts), potentials, net.ring(turn)
