"""Numbers told for standings, and whether no act comes above them; and which standings are reached at all."""

from gentlerounds.errors import TooMany
from gentlerounds.moves import Moves
from gentlerounds.setups import stands_in
from gentlerounds.sums import is_up_to, plus
from gentlerounds.values import is_fraction, is_tuple

MOST_STANDINGS = 400


def told_numbers(setup, value):
    """Return the numbers of standings that an ascending tuple of pairs tells, as a dict; None for anything else."""
    if not isinstance(value, tuple):
        return None
    numbers = {}
    last = ()
    for pair in value:
        if not is_tuple(pair, 2, 2) or not stands_in(setup, pair[0]) or not is_fraction(pair[1]):
            return None
        if pair[0] <= last:
            return None
        last = pair[0]
        numbers[last] = pair[1]
    return numbers


def holds(moves, standing, most, numbers):
    """Tell whether each act leads to a standing with a number, and its worth with this number is up to most."""
    for _, further, worth in moves.ways(standing):
        if further not in numbers or not is_up_to(plus(moves.fraction(worth), numbers[further]), most):
            return False
    return True


def ways_to(moves):
    """Return for each standing that is reached the standing ahead and the act, None for the begun one.

    They come in the order in which fewer acts lead there; as soon as they are too many None is returned.
    """
    first = moves.first()
    found = {first: None}
    queue = [first]
    done = 0
    while done < len(queue):
        standing = queue[done]
        done += 1
        for act, further, _ in moves.ways(standing):
            if further not in found:
                found[further] = (standing, act)
                queue.append(further)
        if len(queue) > MOST_STANDINGS:
            return None
    return found


def is_reached_whole(setup):
    """Tell whether no more standings are reached than may be."""
    return ways_to(Moves(setup)) is not None


def check_reached(setup):
    """Raise TooMany for a set-up of which more standings are reached than may be."""
    if not is_reached_whole(setup):
        raise TooMany()
