import random
import unittest
from fractions import Fraction

from gentlerounds import tables
from gentlerounds.errors import InvalidSetup, InvalidTable, TooMany
from tests import plainsetups as plain
from tests.helper import any_values, given, no_tuples, refusals
from tests.samples import put
from tests.setupsamples import (JUST, ONE, OVER, PAIR, PRESS, SHORT, VAST, changes, great_worths, no_setups,
                                some_acts, some_setup)

START = plain.begun(PRESS)


def flat(setup, rate, found=None):
    """A table in which all potentials are 0."""
    return rate, tuple((one, (0, 1)) for one in sorted(found or plain.walk(setup)))


def most(setup):
    """What a standing is worth at most."""
    return plain.pair(sum([plain.number(worths[0]) for _, worths in setup[1]], Fraction(0)))


def some_setups(source, many):
    """Set-ups of many kinds, with worths that are great numbers and fractions, too."""
    for at in range(many):
        yield some_setup(source, 40, great_worths) if at % 4 == 0 else some_setup(source, 60)


class TestReached(unittest.TestCase):
    def test_by_hand(self):
        self.assertEqual(tables.reached(PRESS),
                         ((0, ((0,),), (1, 2)), (0, ((0,),), (2, 2)), (0, ((0,),), (3, 1)), (0, ((0,),), (3, 2)),
                          (0, ((1,),), (0, 2)), (0, ((1,),), (2, 0)), (0, ((1,),), (3, 0))))
        shut = (((((1, 1),), (0, 1)),), ((0, (ONE,)),), 1)
        self.assertEqual(tables.reached(shut), ((0, ((),), (0,)), (0, ((),), (1,)), (1, ((),), (1,))))

    def test_against_a_plain_walk(self):
        source = random.Random(88)
        for setup in [PAIR, JUST] + [some_setup(source, 400, standings=5000) for _ in range(60)]:
            self.assertEqual(tables.reached(setup), tuple(sorted(plain.walk(setup))))

    def test_how_many(self):
        self.assertEqual(len(tables.reached(JUST)), 400)
        self.assertEqual(len(plain.walk(OVER)), 401)
        for setup in (OVER, VAST):
            self.assertRaises(TooMany, tables.reached, setup)

    def test_waiting_leads_back(self):
        source = random.Random(89)
        for setup in [some_setup(source, 60) for _ in range(20)]:
            for one in tables.reached(setup):
                for _ in range(13 + plain.period(setup)):
                    one = plain.step(setup, one, ())
                    if one == plain.begun(setup):
                        break
                self.assertEqual(one, plain.begun(setup))


class TestRates(unittest.TestCase):
    def test_against_karp(self):
        source = random.Random(90)
        seen = {}
        for setup in some_setups(source, 160):
            rate = tables.rate_of(setup)
            self.assertEqual(rate, plain.pair(plain.rate(setup)))
            seen[len(setup[0]), setup[2]] = True
        self.assertEqual(len(seen), 9)

    def test_told_tables(self):
        source = random.Random(91)
        for setup in [PRESS, PAIR] + list(some_setups(source, 80)):
            rate, pairs = tables.told_table(setup)
            self.assertEqual(rate, tables.rate_of(setup))
            self.assertEqual(tuple(one for one, _ in pairs), tables.reached(setup))
            least = plain.potentials(setup, plain.number(rate))
            self.assertEqual(pairs, tuple((one, plain.pair(least[one])) for one in sorted(least)))
            self.assertIs(tables.takes_table(setup, (rate, pairs)), True)
            self.assertIs(plain.takes_table(setup, {repr(one) for one in least}, (rate, pairs)), True)
            bound = least[plain.begun(setup)] - min(least.values())
            self.assertEqual(tables.bound_of(setup, (rate, pairs)), plain.pair(bound))

    def test_the_greatest_one_that_is_told(self):
        rate, pairs = tables.told_table(JUST)
        self.assertEqual((rate, len(pairs)), ((32, 3), 400))
        self.assertIs(tables.takes_table(JUST, (rate, pairs)), True)
        self.assertEqual(tables.bound_of(JUST, flat(JUST, most(JUST))), (0, 1))

    def test_no_rows_are_worth_more(self):
        source = random.Random(92)
        for setup in [PRESS, PAIR] + list(some_setups(source, 30)):
            for table in (tables.told_table(setup), flat(setup, most(setup))):
                bound = plain.number(tables.bound_of(setup, table))
                for _ in range(12):
                    row = some_acts(source, setup, plain.begun(setup), 25, source.choice((0, 0.4)))
                    standing, total = plain.begun(setup), Fraction(0)
                    for many, act in enumerate(row, start=1):
                        standing = plain.step(setup, standing, act)
                        total += plain.worth(setup, standing)
                        self.assertLessEqual(total, many * plain.number(table[0]) + bound)
                for n in range(6):
                    if len(plain.acts(setup, plain.begun(setup))) ** n < 500:
                        best = max(total for _, total, _ in plain.rows(setup, plain.begun(setup), n))
                        self.assertLessEqual(best, n * plain.number(table[0]) + bound)


class TestJudge(unittest.TestCase):
    def check(self, value, right, setup=PRESS):
        self.assertIs(tables.takes_table(setup, value), right, repr(value)[:300])
        if right:
            found = [plain.number(potential) for _, potential in value[1]]
            bound = plain.number(dict(value[1])[plain.begun(setup)]) - min(found)
            self.assertEqual(tables.bound_of(setup, value), plain.pair(bound))
        else:
            with self.assertRaises(InvalidTable) as caught:
                tables.bound_of(setup, value)
            self.assertIs(caught.exception.given, value)

    def test_by_hand(self):
        rate, pairs = tables.told_table(PRESS)
        self.check((rate, pairs), True)
        for other, right in (((11, 4), True), ((5, 2), False), ((1100001, 400000), True), ((1099999, 400000), False),
                             ((0, 1), False), ((-11, 4), False), ((99, 1), True)):
            self.check((other, pairs), right)
        # All potentials may be higher by one number, and below 0.
        for more in (Fraction(7), Fraction(-99), Fraction(1, 3)):
            self.check((rate, tuple((one, plain.pair(plain.number(told) + more)) for one, told in pairs)), True)
        self.check(flat(PRESS, (5, 1)), True)
        self.check(flat(PRESS, (4, 1)), True)
        self.check(flat(PRESS, (39, 10)), False)
        self.check((rate, ()), False)
        self.check((rate, pairs[::-1]), False)
        self.check((rate, pairs + pairs[-1:]), False)
        self.check((rate, pairs[:1] + pairs), False)

    def test_the_least_one_that_is_taken(self):
        # With all potentials 0 the greatest worth that is reached is just taken.
        source = random.Random(93)
        for setup in [some_setup(source, 30) for _ in range(30)]:
            top = max(plain.worth(setup, one) for one in plain.walk(setup))
            self.check(flat(setup, plain.pair(top)), True, setup)
            self.check(flat(setup, plain.pair(top - Fraction(1, 10 ** 9))), False, setup)

    def test_each_pair_changed(self):
        source = random.Random(94)
        for setup in [PRESS, PAIR] + [some_setup(source, 16) for _ in range(8)]:
            rate, pairs = tables.told_table(setup)
            every = plain.every_standing(setup)
            for at, (one, told) in enumerate(pairs):
                for more in (Fraction(1, 10 ** 6), Fraction(-1, 10 ** 6), Fraction(3), Fraction(-3)):
                    value = (rate, put(pairs, at, (one, plain.pair(plain.number(told) + more))))
                    self.check(value, plain.takes_table(setup, every, value), setup)
                self.check((rate, pairs[:at] + pairs[at + 1:]), False, setup)
                self.check((rate, pairs[:at] + pairs[at:at + 1] + pairs[at:]), False, setup)
                if at:
                    self.check((rate, pairs[:at - 1] + (pairs[at], pairs[at - 1]) + pairs[at + 1:]), False, setup)

    def test_more_standings_than_those_reached(self):
        every = plain.standings(PRESS)
        more = [one for one in every if one not in plain.walk(PRESS)]
        self.assertGreater(len(more), 5)
        self.check(flat(PRESS, (5, 1), every), True)
        rate, pairs = tables.told_table(PRESS)
        for one in more:
            value = (rate, tuple(sorted(pairs + ((one, (20, 1)),))))
            leads = all(plain.step(PRESS, one, act) in plain.walk(PRESS) for act in plain.acts(PRESS, one))
            self.check(value, leads)
            self.check((rate, tuple(sorted(pairs + ((one, (-20, 1)),)))), False)

    def test_no_lesser_potentials(self):
        source = random.Random(95)
        for setup in [PRESS] + [some_setup(source, 20) for _ in range(20)]:
            rate, pairs = tables.told_table(setup)
            least = {one: plain.number(told) for one, told in pairs}
            every = plain.every_standing(setup)
            for _ in range(40):
                other = tuple((one, plain.pair(told + Fraction(source.randint(-2, 2), source.choice((1, 7)))))
                              for one, told in least.items())
                self.check((rate, other), plain.takes_table(setup, every, (rate, other)), setup)
                if tables.takes_table(setup, (rate, other)):
                    low = min(plain.number(told) for _, told in other)
                    self.assertTrue(all(plain.number(told) - low >= least[one] for one, told in other))

    def test_any_changes(self):
        seen = {True: 0, False: 0}
        small = (((((1, 1),), (0, 1)),), ((0, (ONE,)),), 1)
        for setup in (PRESS, small):
            every = plain.every_standing(setup)
            for value in changes(tables.told_table(setup), SHORT + (plain.begun(setup), ONE)):
                right = plain.takes_table(setup, every, value)
                self.check(value, right, setup)
                seen[right] += 1
        self.assertGreater(min(seen.values()), 10, seen)
        for value in no_tuples() + any_values() + [(ONE,), (ONE, (), ()), (ONE, ()), [ONE, ()], (1, ())]:
            self.check(value, False)


class TestStricter(unittest.TestCase):
    """What is stricter is not fresher."""

    def test_stricter_setups(self):
        source = random.Random(96)
        seen = {}
        for setup in [PAIR] + [some_setup(source, 40) for _ in range(70)]:
            houses, pages, most = setup
            at = source.randrange(len(houses))
            limits, hours = houses[at]
            others = [("limit", put(houses, at, (limits[:3] + ((source.randint(1, 2), source.randint(1, 4)),), hours)),
                       pages, most)]
            for place, (count, wide) in enumerate(limits):
                others.append(("less", put(houses, at, (put(limits, place, (max(1, count - 1), wide)), hours)), pages,
                               most))
                others.append(("wider", put(houses, at, (put(limits, place, (count, min(5, wide + 1))), hours)), pages,
                               most))
            if sum(hours) > 1:
                others.append(("shut", put(houses, at, (limits, put(hours, hours.index(1), 0))), pages, most))
            if most > 1:
                others.append(("most", houses, pages, most - 1))
            if len(pages) > 1:
                others.append(("page", houses, pages[1:], most))
            house, worths = pages[0]
            others.append(("worth", houses, put(pages, 0, (house, worths[:-1] + ((0, 1),))), most))
            for kind, *other in others:
                other = tuple(other)
                if plain.walk(other, most=400) is None:
                    continue
                one, two = plain.number(tables.rate_of(other)), plain.number(tables.rate_of(setup))
                self.assertLessEqual(one, two, (kind, setup))
                seen[kind, one < two] = seen.get((kind, one < two), 0) + 1
        self.assertEqual(len([kind for kind, is_less in seen if is_less]), 7, seen)

    def test_worths_multiplied(self):
        source = random.Random(97)
        for setup in [PRESS, PAIR] + [some_setup(source, 40) for _ in range(30)]:
            for by in (Fraction(0), Fraction(3, 7), Fraction(10 ** 30)):
                pages = tuple((house, tuple(plain.pair(plain.number(worth) * by) for worth in worths))
                              for house, worths in setup[1])
                self.assertEqual(tables.rate_of(put(setup, 1, pages)),
                                 plain.pair(plain.number(tables.rate_of(setup)) * by))

    def test_alike_pages_of_one_house(self):
        source = random.Random(98)
        for wide in range(1, 6):
            for many in range(1, 5):
                tops = sorted([source.randint(0, 20) for _ in range(source.randint(1, 4))])[::-1]
                worths = tuple(plain.pair(Fraction(top, 6)) for top in tops)
                for most in (1, 2, 3):
                    setup = (((((1, wide),), (1,)),), ((0, worths),) * many, most)
                    rate = sum([plain.number(worth) for worth in worths[:many * wide]]) / wide
                    self.assertEqual(tables.rate_of(setup), plain.pair(rate))


class TestErrors(unittest.TestCase):
    def test_errors(self):
        setup = {"setup": given(InvalidSetup, no_setups()[::3])}
        for call in (tables.reached, tables.rate_of, tables.told_table):
            refusals(self, call, [("setup", PAIR)], setup, last=[({"setup": OVER}, TooMany, None),
                                                                 ({"setup": VAST}, TooMany, None)])
        table = tables.told_table(PAIR)
        refusals(self, tables.takes_table, [("setup", PAIR), ("value", table)], setup,
                 last=[({"setup": OVER}, TooMany, None)])
        wrong = {**setup, "table": given(InvalidTable, no_tuples() + any_values() + [(table[0], ()), table[1]])}
        held = flat(OVER, most(OVER))
        refusals(self, tables.bound_of, [("setup", PAIR), ("table", table)], wrong,
                 last=[({"setup": OVER, "table": held}, TooMany, None)])

    def test_too_many(self):
        held = flat(OVER, most(OVER))
        for value in (None, (), held, flat(PRESS, (5, 1))):
            for setup in (OVER, VAST):
                self.assertRaises(TooMany, tables.takes_table, setup, value)
        # A table that is wrong for it is told first.
        for value in (None, (), (most(OVER), held[1][1:]), ((1, 1), held[1])):
            with self.assertRaises(InvalidTable) as caught:
                tables.bound_of(OVER, value)
            self.assertIs(caught.exception.given, value)
        self.assertRaises(TooMany, tables.bound_of, OVER, held)

    def test_a_table_of_another_setup(self):
        for setup in (PAIR, JUST):
            self.assertIs(tables.takes_table(setup, tables.told_table(PRESS)), False)
        self.assertIs(tables.takes_table(put(PRESS, 2, 2), tables.told_table(PRESS)), True)
        self.assertEqual(plain.number(tables.rate_of(PAIR)), plain.rate(PAIR))
        self.assertGreater(len(tables.reached(PAIR)), 20)


if __name__ == "__main__":
    unittest.main()
