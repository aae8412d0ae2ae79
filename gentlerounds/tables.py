"""Potential tables: the standings that are reached, the rate, and the judge of tables."""

from gentlerounds.bounds import check_reached, holds, told_numbers, ways_to
from gentlerounds.errors import InvalidTable, TooMany
from gentlerounds.moves import Moves
from gentlerounds.rates import solved
from gentlerounds.setups import check_setup
from gentlerounds.sums import is_up_to, minus, plus
from gentlerounds.values import is_fraction, is_tuple


def reached(setup):
    """Return the ascending tuple of the standings that are reached."""
    check_setup(setup)
    found = ways_to(Moves(setup))
    if found is None:
        raise TooMany()
    return tuple(sorted(found))


def rate_of(setup):
    """Return the rate of the set-up."""
    check_setup(setup)
    return solved(setup)[0]


def told_table(setup):
    """Return the potential table of the rate, with the least potentials of the standings that are reached."""
    check_setup(setup)
    rate, potentials, _ = solved(setup)
    return rate, tuple([(standing, potentials[standing]) for standing in sorted(potentials)])


def is_table(setup, value):
    """Tell whether the judge takes a potential table, however many standings are reached."""
    if not is_tuple(value, 2, 2) or not is_fraction(value[0]):
        return False
    rate, pairs = value
    potentials = told_numbers(setup, pairs)
    moves = Moves(setup)
    if potentials is None or moves.first() not in potentials:
        return False
    return all([holds(moves, standing, plus(rate, most), potentials) for standing, most in potentials.items()])


def takes_table(setup, value):
    """Tell whether the judge takes a potential table."""
    check_setup(setup)
    check_reached(setup)
    return is_table(setup, value)


def bound_of(setup, table):
    """Return the potential of the begun standing less the least one of the table."""
    check_setup(setup)
    if not is_table(setup, table):
        raise InvalidTable(table)
    check_reached(setup)
    _, pairs = table
    least = pairs[0][1]
    for _, potential in pairs:
        if is_up_to(potential, least):
            least = potential
    return minus(dict(pairs)[Moves(setup).first()], least)
