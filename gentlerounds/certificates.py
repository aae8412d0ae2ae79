"""Claims that are so, with papers that the checker accepts for them."""

from gentlerounds.asking import ALWAYS
from gentlerounds.errors import InvalidFraction, InvalidLog
from gentlerounds.limits import check_limits, is_polite
from gentlerounds.logjudge import is_right
from gentlerounds.rings import ring_of
from gentlerounds.setups import check_setup
from gentlerounds.sharing import loose_row
from gentlerounds.stages import best_row, best_sum, check_stage, staged
from gentlerounds.sums import is_up_to
from gentlerounds.tables import rate_of, told_table
from gentlerounds.tasks import check_task
from gentlerounds.values import is_fraction
from gentlerounds.worlds import check_world

NOTHING = ()


def check_fraction(given):
    """Raise InvalidFraction for what is no fraction."""
    if not is_fraction(given):
        raise InvalidFraction(given)


def certify_polite(rules, asks):
    """Return the claim that the asks are polite, or that they are not, and its paper."""
    word = "polite" if is_polite(rules, asks) else "not polite"
    return (word, rules, asks), NOTHING


def certify_stricter(limits, other):
    """Return the claim that the limits are stricter than the others, or that they are not, and its paper."""
    check_limits(limits)
    check_limits(other)
    asks = loose_row((limits, ALWAYS), (other, ALWAYS))
    if asks is None:
        return ("stricter", limits, other), NOTHING
    return ("not stricter", limits, other), asks


def certify_rate(setup, number):
    """Return the claim that the rate is up to the number, or that it is from it on, and its paper."""
    check_setup(setup)
    check_fraction(number)
    if is_up_to(rate_of(setup), number):
        return ("rate up to", setup, number), told_table(setup)
    return ("rate from", setup, number), ring_of(setup)


def certify_sum(setup, standing, n, number):
    """Return the claim that the best sum is up to the number, or that it is from it on, and its paper."""
    check_stage(setup, standing, n)
    check_fraction(number)
    if is_up_to(best_sum(setup, standing, n), number):
        return ("sum up to", setup, standing, n, number), staged(setup, standing, n)
    return ("sum from", setup, standing, n, number), best_row(setup, standing, n)


def certify_log(world, task, value):
    """Return the claim that a tuple is a right log, or that it is a wrong one, and its paper."""
    check_world(world)
    check_task(world, task)
    if not isinstance(value, tuple):
        raise InvalidLog(None)
    word = "right log" if is_right(world, task, value) else "wrong log"
    return (word, world, task, value), NOTHING
