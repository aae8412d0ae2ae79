"""The checker: which papers are accepted for which claims."""

from gentlerounds.asking import ALWAYS
from gentlerounds.bounds import is_reached_whole
from gentlerounds.limits import are_asks, are_limits, are_rules, is_polite
from gentlerounds.logjudge import is_right
from gentlerounds.moves import Moves
from gentlerounds.rings import is_ring, mean_of
from gentlerounds.setups import is_setup, is_standing, sum_of
from gentlerounds.sharing import is_stricter
from gentlerounds.stages import MOST_MOMENTS, takes_staged
from gentlerounds.sums import is_up_to
from gentlerounds.tables import takes_table
from gentlerounds.tasks import is_task
from gentlerounds.values import is_between, is_fraction, is_tuple
from gentlerounds.worlds import is_world


def is_blank(paper):
    """Tell whether a paper is the one for claims that need none."""
    return is_tuple(paper, 0, 0)


def are_ruled(parts):
    """Tell whether the parts of a claim are rules and asks."""
    return len(parts) == 2 and are_rules(parts[0]) and are_asks(parts[1])


def takes_polite(parts, paper):
    """Judge a paper for asks that are polite."""
    return are_ruled(parts) and is_blank(paper) and is_polite(*parts)


def takes_impolite(parts, paper):
    """Judge a paper for asks that are not polite."""
    return are_ruled(parts) and is_blank(paper) and not is_polite(*parts)


def are_both_limits(parts):
    """Tell whether the parts of a claim are limits and others."""
    return len(parts) == 2 and are_limits(parts[0]) and are_limits(parts[1])


def takes_stricter(parts, paper):
    """Judge a paper for limits that are stricter than others."""
    return are_both_limits(parts) and is_blank(paper) and is_stricter((parts[0], ALWAYS), (parts[1], ALWAYS))


def takes_looser(parts, paper):
    """Judge a paper for limits that are not stricter than others: asks that show it."""
    if not are_both_limits(parts) or not are_asks(paper):
        return False
    limits, other = parts
    return is_polite((limits, ALWAYS), paper) and not is_polite((other, ALWAYS), paper)


def are_of_rate(parts):
    """Tell whether the parts of a claim are a set-up of which not too many standings are reached, and a number."""
    return len(parts) == 2 and is_setup(parts[0]) and is_fraction(parts[1]) and is_reached_whole(parts[0])


def takes_rate_up_to(parts, paper):
    """Judge a paper for a rate that is up to a number: a potential table."""
    if not are_of_rate(parts):
        return False
    setup, number = parts
    return takes_table(setup, paper) and is_up_to(paper[0], number)


def takes_rate_from(parts, paper):
    """Judge a paper for a rate that is from a number on: a ring."""
    if not are_of_rate(parts):
        return False
    setup, number = parts
    return is_ring(setup, paper) and is_up_to(number, mean_of(setup, paper))


def are_of_sum(parts):
    """Tell whether the parts of a claim are a set-up, a standing of it, how many acts there are, and a number."""
    if len(parts) != 4 or not is_setup(parts[0]) or not is_standing(parts[0], parts[1]):
        return False
    return is_between(parts[2], 0, MOST_MOMENTS) and is_fraction(parts[3])


def takes_sum_up_to(parts, paper):
    """Judge a paper for a best sum that is up to a number: a staged table."""
    if not are_of_sum(parts):
        return False
    setup, standing, n, number = parts
    return takes_staged(setup, standing, n, paper) and is_up_to(dict(paper[n])[standing], number)


def takes_sum_from(parts, paper):
    """Judge a paper for a best sum that is from a number on: as many acts."""
    if not are_of_sum(parts):
        return False
    setup, standing, n, number = parts
    if not is_tuple(paper, n, n) or len(Moves(setup).trail(standing, paper)) <= n:
        return False
    return is_up_to(number, sum_of(setup, standing, paper))


def are_of_log(parts):
    """Tell whether the parts of a claim are a world, a task in it, and a tuple."""
    if len(parts) != 3 or not is_world(parts[0]) or not is_task(parts[0], parts[1]):
        return False
    return isinstance(parts[2], tuple)


def takes_right_log(parts, paper):
    """Judge a paper for a log that is right."""
    return are_of_log(parts) and is_blank(paper) and is_right(*parts)


def takes_wrong_log(parts, paper):
    """Judge a paper for a log that is wrong."""
    return are_of_log(parts) and is_blank(paper) and not is_right(*parts)


JUDGES = {
    "polite": takes_polite,
    "not polite": takes_impolite,
    "stricter": takes_stricter,
    "not stricter": takes_looser,
    "rate up to": takes_rate_up_to,
    "rate from": takes_rate_from,
    "sum up to": takes_sum_up_to,
    "sum from": takes_sum_from,
    "right log": takes_right_log,
    "wrong log": takes_wrong_log,
}


def accepts(claim, paper):
    """Tell whether a value is a claim for the checker, and another one a paper for it."""
    if not isinstance(claim, tuple) or not claim or not isinstance(claim[0], str) or claim[0] not in JUDGES:
        return False
    judge = JUDGES[claim[0]]
    return judge(claim[1:], paper)
