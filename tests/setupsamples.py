"""Set-ups, standings, acts and papers for tests: right ones, ones next to them, and any ones."""

from fractions import Fraction

from tests import plainsetups as plain
from tests.helper import Echo, any_values, no_numbers, no_rules, no_tuples, some_hours, some_limits
from tests.samples import put

ONE, TWO, THREE = (1, 1), (2, 1), (3, 1)
PRESS = (((((1, 2),), (1,)),), ((0, (THREE, TWO, TWO)), (0, (TWO, TWO))), 1)
# Two houses, one of them shut each third moment; fractions as worths.
PAIR = (((((2, 3), (1, 1)), (1, 1, 0)), ((), (1, 0))), ((0, ((5, 2), (1, 3))), (1, ((7, 4),)), (1, ((1, 1), (0, 1)))),
        2)
EDGE = (((((6, 5), (1, 5), (6, 1), (2, 2)), (0, 0, 0, 1)), ((), (1,)), (((3, 4),), (1, 0))),
        ((2, ((9, 2),) * 4), (0, ((0, 1),)), (1, ((4, 1), (3, 1), (2, 1), (1, 1))), (2, ((1, 7),))), 3)
# Of these just 400 and 401 standings are reached.
JUST = (((((1, 4), (4, 5)), (0, 1, 1)), (((2, 2), (2, 2)), (1, 0, 1)), (((1, 1), (3, 3)), (1, 1))),
        ((1, ((4, 1), (3, 1), (1, 1), (0, 1))), (2, ((5, 1), (1, 1), (1, 1))), (0, ((5, 1), (4, 1)))), 3)
OVER = ((((), (1, 1, 1, 0)), ((), (0, 1, 0)), (((3, 2),), (0, 1, 0))),
        ((0, ((3, 1), (3, 1), (0, 1))), (0, ((4, 1), (3, 1))), (2, ((2, 1),)), (0, ((6, 1), (1, 1), (1, 1)))), 2)
# Of this one very many are reached.
VAST = (((((6, 5),), (1, 1, 1, 1)), (((6, 5),), (1, 1, 1))),
        ((0, (ONE,) * 4), (0, (ONE,) * 4), (1, (ONE,) * 4), (1, (ONE,) * 4)), 3)


def no_houses():
    """Values that are no rules of a house of a set-up."""
    rows = [(((1, 6),), (1,)), (((6, 12),), (1,)), (((1, 5), (1, 5), (1, 5), (1, 6)), (1,)), (((0, 5),), (1,)),
            (((7, 5),), (1,)), ((), (1, 1, 1, 1, 1)), ((), (0,) * 4), (((1, 2),), (0, 0, 1, 0, 0)), (((1, 0),), (1,))]
    return no_rules()[::3] + rows


def no_fractions():
    """Values that are no fractions from 0 on, up to 1."""
    return any_values() + [1, "1", (1,), (1, 1, 1), [1, 1], (2, 2), (2, 4), (0, 2), (0, 0), (1, 0), (1, -1), (-1, 1),
                           (-1, -1),
                           (True, 1), (1, True), (0, True), ("1", 1), (1, "1"), (None, 1), ((1, 1), 1), (Echo(), 1)]


def no_pages():
    """Values that are no pages of a set-up with one house."""
    rows = [(bad, (ONE,)) for bad in no_numbers(0, 0)]
    rows += [(0, bad) for bad in no_tuples() + any_values() + [(), (ONE,) * 5, ONE, [ONE], (ONE, TWO), (TWO, ONE, TWO)]]
    rows += [(0, (ONE, bad)) for bad in no_fractions()] + [(0, (bad, (0, 1))) for bad in no_fractions()]
    rows += [(0, ((1, 3), (1, 2))), (0, ((3, 7), (2, 7), (5, 14))), (0, ((0, 1), (1, 10 ** 40)))]
    return any_values() + rows + [(0,), (0, (ONE,), 1), [0, (ONE,)], (), ((ONE,), 0)]


def no_setups():
    """Values that are no set-ups."""
    page, house = (0, (ONE,)), ((), (1,))
    rows = [((bad,), (page,), 1) for bad in no_houses()] + [((house, bad), (page,), 1) for bad in no_houses()[::9]]
    rows += [((house,), (bad,), 1) for bad in no_pages()] + [((house,), (page, page, bad), 2)
                                                             for bad in no_pages()[::9]]
    rows += [((house,), (page,), bad) for bad in no_numbers(1, 3)]
    rows += [(bad, (page,), 1) for bad in no_tuples() + [(), (house,) * 4, house]]
    rows += [((house,), bad, 1) for bad in no_tuples() + [(), (page,) * 5, page]]
    rows += [((house, house), ((2, (ONE,)),), 1), ((house, house), (page, (-1, (ONE,))), 1)]
    return no_tuples() + any_values() + rows + [PRESS[:2], PRESS + (1,), list(PRESS), PRESS[::-1], (), (PRESS,)]


def no_standings(setup):
    """Values that are no standings of a set-up, made from its begun one."""
    clock, counts, ages = plain.begun(setup)
    rows = [(bad, counts, ages) for bad in no_numbers(0, plain.period(setup) - 1)]
    rows += [(clock, bad, ages) for bad in no_tuples() + any_values() + [counts + ((),), counts[1:], list(counts)]]
    rows += [(clock, counts, bad) for bad in no_tuples() + any_values() + [ages + (0,), ages[1:], list(ages), (ages,)]]
    for at, age in enumerate(ages):
        rows += [(clock, counts, put(ages, at, bad)) for bad in no_numbers(0, age)]
    for at, row in enumerate(counts):
        wrong = no_tuples() + any_values() + [row + (0,), (0,) + row, list(row)] + ([row[1:]] if row else [])
        rows += [(clock, put(counts, at, bad), ages) for bad in wrong if bad != () or row]
        for place in range(len(row)):
            rows += [(clock, put(counts, at, put(row, place, bad)), ages) for bad in no_numbers(0, setup[2])]
    return no_tuples() + any_values() + rows + [(clock, counts), (clock, counts, ages, 0), [clock, counts, ages], (),
                                                (counts, clock, ages), (clock, ages, counts) if ages != counts else ()]


def some_worths(source, kinds=3):
    tops = sorted([Fraction(source.randint(0, 9), source.choice((1, 1, 2, 3, 7)))
                   for _ in range(source.randint(1, kinds))])
    return tuple(plain.pair(top) for top in tops[::-1])


def great_worths(source):
    tops = sorted([Fraction(source.randint(0, 10 ** 60), source.randint(1, 10 ** 50)) for _ in range(2)])
    return tuple(plain.pair(top) for top in tops[::-1])


def some_setup(source, most=60, worths=some_worths, standings=900):
    """Any set-up of which up to so many standings are reached, and not many more are there."""
    while True:
        houses = tuple((some_limits(source, 3, source.choice((2, 3, 4, 5)), 2), some_hours(source, 4))
                       for _ in range(source.choice((1, 1, 2, 2, 3))))
        pages = tuple((source.randrange(len(houses)), worths(source)) for _ in range(source.choice((1, 2, 2, 3, 4))))
        setup = (houses, pages, source.randint(1, 3))
        size = plain.period(setup)
        for limits, _ in houses:
            size *= (setup[2] + 1) ** plain.span(limits)
        if size <= 10 * standings and plain.walk(setup, most=most) and len(plain.standings(setup)) <= standings:
            return setup


def some_acts(source, setup, standing, many, idle=0.2):
    """So many let acts from a standing."""
    row = ()
    for _ in range(many):
        choices = plain.acts(setup, standing)
        row += (() if source.random() < idle else source.choice(choices),)
        standing = plain.step(setup, standing, row[-1])
    return row


def changes(value, wrong=()):
    """Values next to a nested tuple: at each depth elements more, less, twice, exchanged, others, lists for tuples."""
    yield from wrong
    if isinstance(value, tuple):
        yield list(value)
        yield value + (0,)
        yield value + ((),)
        yield value[::-1]
        yield (value,)
        for at, one in enumerate(value):
            yield value[:at] + value[at + 1:]
            yield value[:at] + (one,) + value[at:]
            for other in changes(one, wrong):
                yield put(value, at, other)
    elif type(value) is int:
        yield from (value + 1, value - 1, -value - 1, str(value), (value,), value == 1, 10 ** 50)
    elif isinstance(value, str):
        yield from (value + "a", value[1:], value.upper(), value.encode(), (value,), value + " ")


SHORT = (None, True, False, 0, (), "", [], {}, b"", Echo(), (Echo(), Echo()))
