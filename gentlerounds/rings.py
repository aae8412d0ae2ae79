"""Rings of acts: a way, and a round that leads back to where it begins."""

from gentlerounds.bounds import check_reached
from gentlerounds.errors import InvalidRing
from gentlerounds.moves import Moves
from gentlerounds.rates import solved
from gentlerounds.setups import check_setup
from gentlerounds.sums import lowest
from gentlerounds.values import is_tuple


def leads_round(setup, value):
    """Tell whether a value is a ring, however many standings are reached."""
    if not is_tuple(value, 2, 2) or not isinstance(value[0], tuple) or not isinstance(value[1], tuple):
        return False
    way, turn = value
    if not turn:
        return False
    moves = Moves(setup)
    ahead = moves.trail(moves.first(), way)
    behind = moves.trail(ahead[-1], turn)
    return len(ahead) > len(way) and len(behind) > len(turn) and behind[-1] == ahead[-1]


def check_ring(setup, given):
    """Raise the error of the first of the two that is wrong."""
    check_setup(setup)
    if not leads_round(setup, given):
        raise InvalidRing(given)


def is_ring(setup, value):
    """Tell whether a value is a ring."""
    check_setup(setup)
    check_reached(setup)
    return leads_round(setup, value)


def mean_of(setup, ring):
    """Return the mean worth of the acts of a ring's round."""
    check_ring(setup, ring)
    check_reached(setup)
    moves = Moves(setup)
    way, turn = ring
    standings = moves.trail(moves.first(), way + turn)[-len(turn):]
    return lowest(sum([moves.worth(standing) for standing in standings]), moves.scale * len(turn))


def ring_of(setup):
    """Return a ring with the rate as its mean."""
    check_setup(setup)
    return solved(setup)[2]
