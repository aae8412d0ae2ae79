"""Round plans: acts that go on for ever, from any standing, by a ring."""

from gentlerounds.checks import check_between
from gentlerounds.errors import InvalidStanding
from gentlerounds.moves import Moves
from gentlerounds.rings import check_ring
from gentlerounds.setups import check_standing, stands_in

LONGEST_PLAN = 400
WAIT = ()


def waits_from(setup, standing):
    """Return how many acts without asks lead to the begun standing."""
    moves = Moves(setup)
    waits = 0
    while standing != moves.first():
        standing = moves.behind(standing, WAIT)
        waits += 1
    return waits


def waiting_of(setup, standing):
    """Return how many acts without asks lead to the begun standing."""
    check_standing(setup, standing)
    return waits_from(setup, standing)


def check_plan(setup, ring, standing):
    """Raise the error of the first of the three that is wrong."""
    check_ring(setup, ring)
    if not stands_in(setup, standing):
        raise InvalidStanding(standing)


def round_plan(setup, ring, standing, many):
    """Return the first acts, so many, of the round plan from the standing by the ring."""
    check_plan(setup, ring, standing)
    check_between(many, 0, LONGEST_PLAN)
    way, turn = ring
    plan = (WAIT,) * waits_from(setup, standing) + way
    while len(plan) < many:
        plan = plan + turn
    return plan[:many]


def behind_by(setup, ring, standing):
    """Return how many acts lead to where the ring's round begins, and once round."""
    check_plan(setup, ring, standing)
    way, turn = ring
    return waits_from(setup, standing) + len(way) + len(turn)
