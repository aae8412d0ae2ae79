"""Set-ups of houses and pages: their standings, the acts that are let there, and what these are worth."""

from gentlerounds.errors import InvalidAct, InvalidActs, InvalidSetup, InvalidStanding
from gentlerounds.limits import are_rules
from gentlerounds.monitors import fit
from gentlerounds.moves import Moves, period_in
from gentlerounds.sums import is_up_to
from gentlerounds.values import is_between, is_fraction, is_tuple

MOST_HOUSES = 3
MOST_HOURS = 4
WIDEST_LIMIT = 5
MOST_PAGES = 4
MOST_WORTHS = 4
MOST_AT_ONCE = 3
MOST_ACTS = 400


def is_narrow(value):
    """Tell whether a value is rules that a house of a set-up may have."""
    if not are_rules(value):
        return False
    limits, hours = value
    return len(hours) <= MOST_HOURS and all(wide <= WIDEST_LIMIT for _, wide in limits)


def are_worths(value):
    """Tell whether a value is what the ages of a copy are worth."""
    if not is_tuple(value, 1, MOST_WORTHS) or not all(is_fraction(one) and one[0] >= 0 for one in value):
        return False
    return all(is_up_to(elder, newer) for newer, elder in zip(value, value[1:]))


def is_kept(value, houses):
    """Tell whether a value is a page of one of so many houses."""
    return is_tuple(value, 2, 2) and is_between(value[0], 0, houses - 1) and are_worths(value[1])


def is_setup(value):
    """Tell whether a value is a set-up."""
    if not is_tuple(value, 3, 3):
        return False
    houses, pages, most = value
    if not is_tuple(houses, 1, MOST_HOUSES) or not all(is_narrow(rules) for rules in houses):
        return False
    if not is_tuple(pages, 1, MOST_PAGES) or not all(is_kept(page, len(houses)) for page in pages):
        return False
    return is_between(most, 1, MOST_AT_ONCE)


def check_setup(given):
    """Raise InvalidSetup for what is no set-up."""
    if not is_setup(given):
        raise InvalidSetup(given)


def are_few(value, limits, most):
    """Tell whether a value is counts that fit the limits, none of them above most."""
    return fit(limits, value) and all(many <= most for many in value)


def stands_in(setup, value):
    """Tell whether a value is a standing of what is known to be a set-up."""
    houses, pages, most = setup
    if not is_tuple(value, 3, 3) or not is_between(value[0], 0, period_in(houses) - 1):
        return False
    _, counts, ages = value
    if not is_tuple(counts, len(houses), len(houses)) or not is_tuple(ages, len(pages), len(pages)):
        return False
    if not all([are_few(count, limits, most) for count, (limits, _) in zip(counts, houses)]):
        return False
    return all([is_between(age, 0, len(worths)) for age, (_, worths) in zip(ages, pages)])


def is_standing(setup, value):
    """Tell whether a value is a standing of the set-up."""
    check_setup(setup)
    return stands_in(setup, value)


def check_standing(setup, given):
    """Raise the error of the first of the two that is wrong."""
    check_setup(setup)
    if not stands_in(setup, given):
        raise InvalidStanding(given)


def trail_of(moves, standing, given):
    """Return the list of the standing and of those behind the acts; raise InvalidActs for what is no such acts."""
    if not is_tuple(given, 0, MOST_ACTS):
        raise InvalidActs(None)
    standings = moves.trail(standing, given)
    if len(standings) <= len(given):
        raise InvalidActs(len(standings) - 1)
    return standings


def period_of(setup):
    """Return the period of the set-up."""
    check_setup(setup)
    return period_in(setup[0])


def begun(setup):
    """Return the begun standing."""
    check_setup(setup)
    return Moves(setup).first()


def worth_of(setup, standing):
    """Return what the standing is worth."""
    check_standing(setup, standing)
    moves = Moves(setup)
    return moves.fraction(moves.worth(standing))


def acts_at(setup, standing):
    """Return the ascending tuple of all acts that are let at the standing."""
    check_standing(setup, standing)
    return tuple([act for act, _, _ in Moves(setup).ways(standing)])


def step(setup, standing, act):
    """Return the standing behind the act."""
    check_standing(setup, standing)
    further = Moves(setup).behind(standing, act)
    if further is None:
        raise InvalidAct(act)
    return further


def led(setup, standing, acts):
    """Return the tuple of the standing and of those behind each of the acts."""
    check_standing(setup, standing)
    return tuple(trail_of(Moves(setup), standing, acts))


def sum_of(setup, standing, acts):
    """Return what the acts are worth together."""
    check_standing(setup, standing)
    moves = Moves(setup)
    further = trail_of(moves, standing, acts)[1:]
    return moves.fraction(sum([moves.worth(one) for one in further]))


def asks_by(setup, acts):
    """Return for each house the moments at which its pages are asked for by the acts, from the begun standing on."""
    check_setup(setup)
    moves = Moves(setup)
    trail_of(moves, moves.first(), acts)
    asks = [[] for _ in setup[0]]
    for moment, act in enumerate(acts):
        for page in act:
            asks[setup[1][page][0]].append(moment)
    return tuple([tuple(moments) for moments in asks])
