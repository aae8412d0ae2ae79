"""Slow but plain ways to set-ups: acts, steps, sums, rates and judges, straight from the document."""

from fractions import Fraction
from functools import lru_cache
from itertools import combinations, product
from math import gcd

from tests.helper import slow_polite


def number(pair):
    return Fraction(pair[0], pair[1])


def pair(value):
    return value.numerator, value.denominator


def period(setup):
    return next(many for many in range(1, 13) if all(many % len(hours) == 0 for _, hours in setup[0]))


def span(limits):
    return max([wide for _, wide in limits] + [1]) - 1


def begun(setup):
    return 0, tuple((0,) * span(limits) for limits, _ in setup[0]), tuple(len(worths) for _, worths in setup[1])


def worth(setup, standing):
    """What the copies of all pages are worth, as a Fraction."""
    return sum([number((worths + ((0, 1),))[age]) for (_, worths), age in zip(setup[1], standing[2])], Fraction(0))


def asked(setup, act, house):
    return sum(1 for page in act if setup[1][page][0] == house)


def lets(setup, standing, act):
    for house, (limits, hours) in enumerate(setup[0]):
        many = asked(setup, act, house)
        if many and not hours[standing[0] % len(hours)]:
            return False
        if any(many + sum(standing[1][house][:wide - 1]) > most for most, wide in limits):
            return False
    return True


@lru_cache(maxsize=None)
def acts(setup, standing):
    """The list of all acts that are let at a standing."""
    rows = [act for many in range(4) for act in combinations(range(len(setup[1])), many)]
    return [act for act in sorted(rows) if len(act) <= setup[2] and lets(setup, standing, act)]


def step(setup, standing, act):
    counts = tuple(((asked(setup, act, house),) + row)[:len(row)] for house, row in enumerate(standing[1]))
    ages = tuple(0 if page in act else min(age + 1, len(setup[1][page][1])) for page, age in enumerate(standing[2]))
    return (standing[0] + 1) % period(setup), counts, ages


def asks(setup, row):
    """Of each house the moments of its asks, by acts from the begun standing on."""
    return tuple(tuple(moment for moment, act in enumerate(row) for page in act if setup[1][page][0] == house)
                 for house in range(len(setup[0])))


def polite(setup, row):
    """Whether the asks of each house are polite, counted in all windows."""
    return all(slow_polite(rules, moments) for rules, moments in zip(setup[0], asks(setup, row)))


def standing_behind(setup, row):
    """The standing behind acts from the begun one on, told by what was asked for at which moment."""
    many = len(row)
    counts = []
    for moments, (limits, _) in zip(asks(setup, row), setup[0]):
        counts.append(tuple(moments.count(many - back) for back in range(1, span(limits) + 1)))
    ages = []
    for page, (_, worths) in enumerate(setup[1]):
        last = [moment for moment, act in enumerate(row) if page in act]
        ages.append(min(many - 1 - last[-1], len(worths)) if last else len(worths))
    return many % period(setup), tuple(counts), tuple(ages)


@lru_cache(maxsize=None)
def leads(setup, standing):
    """The list of all let acts, each with the standing behind it and its worth."""
    behind = [step(setup, standing, act) for act in acts(setup, standing)]
    return [(act, one, worth(setup, one)) for act, one in zip(acts(setup, standing), behind)]


@lru_cache(maxsize=None)
def rows(setup, standing, n):
    """The list of all rows of n let acts, each with its sum and the standing behind it."""
    if n == 0:
        return [((), Fraction(0), standing)]
    return [(row + (act,), total + gain, behind) for row, total, last in rows(setup, standing, n - 1)
            for act, behind, gain in leads(setup, last)]


def standings(setup):
    """All standings of a set-up, those that are not reached, too."""
    houses, pages, most = setup
    counts = [[row for row in product(range(most + 1), repeat=span(limits)) if fits(limits, row)]
              for limits, _ in houses]
    ages = product(*[range(len(worths) + 1) for _, worths in pages])
    return list(product(range(period(setup)), list(product(*counts)), list(ages)))


def fits(limits, row):
    return all(sum(row[at:at + wide]) <= most for most, wide in limits for at in range(len(row)))


def walk(setup, start=None, most=10 ** 6):
    """All standings that acts lead to; None if there are more than so many."""
    first = begun(setup) if start is None else start
    found, left = {first}, [first]
    while left:
        one = left.pop()
        for _, further, _ in leads(setup, one):
            if further not in found:
                found.add(further)
                left.append(further)
        if len(found) > most:
            return None
    return found


def ways(setup, found):
    """Of each standing the list of (standing behind, worth) of its acts."""
    return {one: [(behind, gain) for _, behind, gain in leads(setup, one)] for one in found}


def rate(setup):
    """Karp's way: the best sums of 0 to N acts from the begun standing to each one, N as many as there are."""
    near = ways(setup, walk(setup))
    best = [{begun(setup): Fraction(0)}]
    for _ in near:
        further = {}
        for one, total in best[-1].items():
            for behind, gain in near[one]:
                further[behind] = max(further.get(behind, total + gain), total + gain)
        best.append(further)
    many = len(near)
    return max(min((best[many][one] - best[at][one]) / (many - at) for at in range(many) if one in best[at])
               for one in best[many])


def potentials(setup, mean):
    """The greatest of 0 and of all sums of acts, less the mean for each."""
    near = ways(setup, walk(setup))
    gains = {one: Fraction(0) for one in near}
    while True:
        newer = {one: max([Fraction(0)] + [gain - mean + gains[behind] for behind, gain in near[one]]) for one in near}
        if newer == gains:
            return gains
        gains = newer


def is_number(value):
    """Whether a value is a fraction, told strictly."""
    if type(value) is not tuple or len(value) != 2 or any(type(one) is not int for one in value):
        return False
    return value[1] > 0 and gcd(value[0], value[1]) == 1


def told(every, value):
    """The dict of an ascending tuple of pairs of standings and fractions, otherwise None; EVERY: all standings."""
    if type(value) is not tuple or any(type(one) is not tuple or len(one) != 2 for one in value):
        return None
    # Numbers that are equal may be of other kinds: True is not 1.
    if not all(repr(one) in every and is_number(number_told) for one, number_told in value):
        return None
    found = [one for one, _ in value]
    if any(not ahead < behind for ahead, behind in zip(found, found[1:])):
        return None
    return {one: number(number_told) for one, number_told in value}


def is_setup(value):
    """Whether a value is a set-up, told strictly."""
    if not is_row_of(value, 3, 3, lambda one: True):
        return False
    houses, pages, most = value
    if not is_row_of(houses, 1, 3, is_house) or type(most) is not int or not 1 <= most <= 3:
        return False
    return is_row_of(pages, 1, 4, lambda page: is_page(page, len(houses)))


def is_row_of(value, low, high, check):
    return type(value) is tuple and low <= len(value) <= high and all(check(one) for one in value)


def is_within(value, low, high):
    return type(value) is int and low <= value <= high


def is_house(value):
    if not is_row_of(value, 2, 2, lambda one: type(one) is tuple):
        return False
    limits, hours = value
    pairs = is_row_of(limits, 0, 4, lambda one: is_row_of(one, 2, 2, lambda number_told: True)
                      and is_within(one[0], 1, 6) and is_within(one[1], 1, 5))
    return pairs and is_row_of(hours, 1, 4, lambda one: is_within(one, 0, 1)) and sum(hours) > 0


def is_page(value, many):
    if not is_row_of(value, 2, 2, lambda one: True) or not is_within(value[0], 0, many - 1):
        return False
    if not is_row_of(value[1], 1, 4, is_number):
        return False
    worths = [number(one) for one in value[1]]
    return worths == sorted(worths)[::-1] and worths[-1] >= 0


@lru_cache(maxsize=None)
def every_standing(setup):
    """The texts of all standings."""
    return {repr(one) for one in standings(setup)}


def takes_table(setup, every, value):
    if type(value) is not tuple or len(value) != 2 or not is_number(value[0]):
        return False
    found = told(every, value[1])
    if found is None or begun(setup) not in found:
        return False
    for one in found:
        for _, behind, gain in leads(setup, one):
            if behind not in found or gain + found[behind] > number(value[0]) + found[one]:
                return False
    return True


def takes_staged(setup, every, standing, n, value):
    if type(value) is not tuple or len(value) != n + 1:
        return False
    found = [told(every, stage) for stage in value]
    if None in found or standing not in found[n] or any(one < 0 for one in found[0].values()):
        return False
    for below, above in zip(found, found[1:]):
        for one in above:
            for _, behind, gain in leads(setup, one):
                if behind not in below or gain + below[behind] > above[one]:
                    return False
    return True


def is_act_row(setup, value):
    pages = range(len(setup[1]))
    every = {repr(act) for many in range(setup[2] + 1) for act in combinations(pages, many)}
    return type(value) is tuple and all(repr(act) in every for act in value)


def behind_acts(setup, standing, value):
    """The standing behind acts, None if one of them is not let, or no act."""
    if not is_act_row(setup, value):
        return None
    for act in value:
        if not lets(setup, standing, act):
            return None
        standing = step(setup, standing, act)
    return standing


def sum_of(setup, standing, row):
    total = Fraction(0)
    for act in row:
        standing = step(setup, standing, act)
        total += worth(setup, standing)
    return total


def is_ring(setup, value):
    if type(value) is not tuple or len(value) != 2 or type(value[1]) is not tuple or not value[1]:
        return False
    first = behind_acts(setup, begun(setup), value[0])
    return first is not None and behind_acts(setup, first, value[1]) == first


def mean(setup, ring):
    first = behind_acts(setup, begun(setup), ring[0])
    return sum_of(setup, first, ring[1]) / len(ring[1])
