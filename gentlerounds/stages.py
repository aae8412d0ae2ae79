"""The best sums of a number of acts, and the staged tables that show them."""

from gentlerounds.bounds import holds, told_numbers
from gentlerounds.checks import check_between
from gentlerounds.moves import Moves
from gentlerounds.setups import check_standing
from gentlerounds.values import is_tuple

MOST_MOMENTS = 12


def check_moments(given):
    """Raise InvalidNumber for what is no number of acts that may be passed."""
    check_between(given, 0, MOST_MOMENTS)


def check_stage(setup, standing, n):
    """Raise the error of the first of the three that is wrong."""
    check_standing(setup, standing)
    check_moments(n)


def levels_of(moves, standing, n):
    """Return n + 1 lists: the standings to which none, one, .., n acts lead."""
    levels = [[standing]]
    for _ in range(n):
        further = {behind: True for one in levels[-1] for _, behind, _ in moves.ways(one)}
        levels.append(list(further))
    return levels


def best_worth(moves, standing, sums):
    """Return the greatest worth of an act with the best sum behind it."""
    return max([worth + sums[behind] for _, behind, worth in moves.ways(standing)])


def stages_of(moves, standing, n):
    """Return n + 1 dicts: the best sums of none, one, .., n acts, in parts, where the acts ahead of them lead."""
    levels = levels_of(moves, standing, n)
    stages = [{one: 0 for one in levels[n]}]
    for level in levels[:n][::-1]:
        sums = stages[-1]
        stages.append({one: best_worth(moves, one, sums) for one in level})
    return stages


def best_sum(setup, standing, n):
    """Return the greatest sum of n acts from the standing."""
    check_stage(setup, standing, n)
    moves = Moves(setup)
    return moves.fraction(stages_of(moves, standing, n)[n][standing])


def best_row(setup, standing, n):
    """Return n acts with the greatest sum from the standing."""
    check_stage(setup, standing, n)
    moves = Moves(setup)
    row = []
    for sums in stages_of(moves, standing, n)[:n][::-1]:
        act, standing, _ = max(moves.ways(standing), key=lambda way: way[2] + sums[way[1]])
        row.append(act)
    return tuple(row)


def staged(setup, standing, n):
    """Return the told staged table."""
    check_stage(setup, standing, n)
    moves = Moves(setup)
    stages = stages_of(moves, standing, n)
    return tuple([tuple([(one, moves.fraction(sums[one])) for one in sorted(sums)]) for sums in stages])


def takes_staged(setup, standing, n, value):
    """Tell whether the judge takes a staged table."""
    check_stage(setup, standing, n)
    if not is_tuple(value, n + 1, n + 1):
        return False
    stages = [told_numbers(setup, stage) for stage in value]
    if None in stages or standing not in stages[n]:
        return False
    if not all(number[0] >= 0 for number in list(stages[0].values())):
        return False
    moves = Moves(setup)
    return all([is_held(moves, above, below) for below, above in zip(stages, stages[1:])])


def is_held(moves, above, below):
    """Tell whether no act comes above the numbers of a stage, with those of the stage below it."""
    return all([holds(moves, one, most, below) for one, most in above.items()])
