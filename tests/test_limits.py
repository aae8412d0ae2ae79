import random
import unittest
from itertools import product

from gentlerounds import limits
from gentlerounds.errors import (InvalidAsks, InvalidHours, InvalidLimits, InvalidNumber, InvalidRules, NotPolite,
                                 TooMany)
from tests.helper import (ALL_LIMITS, ask_rows, given, indexed, no_asks, no_hours, no_limits, no_numbers, no_rules,
                          refusals, slow_polite, some_hours, some_limits, tells)

ALWAYS = (1,)
SMALL = [(), ((1, 1),), ((1, 2),), ((2, 3),), ((1, 3),), ((2, 2), (3, 4)), ((3, 4), (1, 2)), ((2, 4), (1, 1)),
         ((3, 3),),
         ((2, 3), (2, 3)), ((1, 2), (2, 5), (3, 7)), ((3, 2), (2, 4), (1, 1), (3, 3))]
HOURS = [(1,), (0, 1), (1, 0), (1, 1, 0), (0, 0, 1), (1, 0, 0, 1, 0)]


def slow_most(rules, start, many):
    """The most asks of polite rows at so many moments from the start on: the numbers at each moment are all tried."""
    best = [0]

    def go_on(asks, moment):
        best[0] = max(best[0], len(asks))
        if moment < start + many:
            for further in range(5):
                row = asks + [moment] * further
                if slow_polite(rules, row):
                    go_on(row, moment + 1)

    go_on([], start)
    return best[0]


def plain_soonest(rules, asks, many, since):
    """The soonest asks: for each one moment after the other is tried."""
    rows = list(asks)
    for _ in range(many):
        moment = max(since, rows[-1] if rows else 0)
        while not slow_polite(rules, rows[-6:] + [moment]):
            moment += 1
        rows.append(moment)
    return tuple(rows[len(asks):])


class TestValues(unittest.TestCase):
    def test_limits(self):
        for most, wide in product(range(-1, 9), range(-1, 15)):
            for value in (((most, wide),), ((1, 1), (most, wide)), ((most, wide),) * 4):
                self.assertIs(limits.are_limits(value), 1 <= most <= 6 and 1 <= wide <= 12)
        self.assertIs(limits.are_limits(()), True)
        self.assertIs(limits.are_limits(((6, 12), (1, 1), (6, 12), (1, 1))), True)
        for value in no_limits():
            self.assertIs(limits.are_limits(value), False, repr(value))

    def test_hours(self):
        for many in range(1, 14):
            for hours in ((1,) * many, (0,) * (many - 1) + (1,), (1,) + (0,) * (many - 1)):
                self.assertIs(limits.are_hours(hours), many <= 12)
            self.assertIs(limits.are_hours((0,) * many), False)
        for value in no_hours():
            self.assertIs(limits.are_hours(value), False, repr(value))

    def test_rules(self):
        for value in no_rules():
            self.assertIs(limits.are_rules(value), False, repr(value))
        for value in product(SMALL, HOURS):
            self.assertIs(limits.are_rules(value), True)

    def test_open(self):
        for hours in HOURS:
            for moment in list(range(40)) + [10 ** 60, 10 ** 60 + 1]:
                self.assertIs(limits.is_open(hours, moment), hours[moment % len(hours)] == 1)


class TestPolite(unittest.TestCase):
    def test_against_all_windows(self):
        rows = ask_rows(range(6), 4) + [(0, 0, 3, 3, 6, 6), (1, 2, 3, 4, 5, 6, 7), (0, 2, 4, 6, 8), (5, 5, 5, 5, 5)]
        for pair in product(SMALL, HOURS[:4]):
            for asks in rows[::5] + rows[-9:]:
                polite = [slow_polite(pair, asks[:many]) for many in range(len(asks) + 1)]
                told = polite.index(False) - 1 if False in polite else None
                self.assertEqual(limits.first_wrong(pair, asks), told, (pair, asks))
                self.assertIs(limits.is_polite(pair, asks), told is None)
                for moment in range(asks[-1] if asks else 0, 9):
                    if told is None:
                        self.assertIs(limits.may_ask(pair, asks, moment), slow_polite(pair, asks + (moment,)))

    def test_each_limit(self):
        for most, wide in ALL_LIMITS:
            pair = (((most, wide),), ALWAYS)
            asks = tuple(range(most))
            near, far = asks[:1] * most + (wide - 1,), asks[:1] * most + (wide,)
            self.assertEqual(limits.first_wrong(pair, near), most)
            self.assertIsNone(limits.first_wrong(pair, far))
            self.assertIs(limits.may_ask(pair, far[:-1], wide), True)
            self.assertIs(limits.may_ask(pair, far[:-1], wide - 1), False)
            spread = asks + (max(asks[-1], wide - 1),)
            self.assertIs(limits.is_polite(pair, spread), slow_polite(pair, spread))

    def test_longest_rows(self):
        self.assertIs(limits.is_polite(((), ALWAYS), (3,) * 200), True)
        self.assertIs(limits.may_ask(((), ALWAYS), (3,) * 200, 3), True)
        every = tuple(range(0, 400, 2))
        self.assertIs(limits.is_polite((((1, 2),), (1, 0)), every), True)
        self.assertEqual(limits.first_wrong((((1, 2),), ALWAYS), every[:-1] + (397,)), 199)
        self.assertEqual(limits.soonest((((1, 2),), ALWAYS), every, 2), (400, 402))
        for call in (limits.is_polite, limits.first_wrong):
            tells(self, InvalidAsks, None, lambda: call(((), ALWAYS), (3,) * 201))

    def test_any_of_polite_asks_are_polite(self):
        source = random.Random(8)
        for _ in range(60):
            pair = (some_limits(source), some_hours(source, 4))
            asks = limits.soonest(pair, (), 9)
            for bits in range(0, 512, 11):
                few = tuple(moment for at, moment in enumerate(asks) if bits >> at & 1)
                self.assertIs(limits.is_polite(pair, few), True)
                self.assertIs(limits.is_polite(pair, asks[:bits % 10]), True)


class TestSoonest(unittest.TestCase):
    def test_against_trying_all_moments(self):
        source = random.Random(9)
        for _ in range(300):
            pair = (some_limits(source), some_hours(source))
            first = limits.soonest(pair, (), source.randint(0, 8), since=source.randint(0, 9))
            since = source.choice((0, source.randint(0, 40)))
            told = plain_soonest(pair, first, 4, since)
            self.assertEqual(limits.soonest(pair, first, 4, since=since), told, (pair, first, since))
            self.assertIs(limits.is_polite(pair, first + told), True)
            for many in range(4):
                self.assertEqual(limits.soonest(pair, first, many, since=since), told[:many])

    def test_no_polite_row_is_sooner(self):
        rows = ask_rows(range(8), 3)
        for pair in product(SMALL, HOURS[:5]):
            for ahead, since in (((), 0), ((), 3), ((0,), 0), ((1, 1), 0), ((0, 2), 4), ((0, 4), 1)):
                if slow_polite(pair, ahead):
                    told = limits.soonest(pair, ahead, 3, since=since)
                    least = max(since, ahead[-1] if ahead else 0)
                    for row in rows[-60:] + rows[:80:3]:
                        if all(moment >= least for moment in row) and slow_polite(pair, ahead + row):
                            self.assertTrue(all(one <= two for one, two in zip(told, row)), (pair, ahead, row))

    def test_since(self):
        pair = (((2, 3),), ALWAYS)
        self.assertEqual(limits.soonest(pair, (0, 0, 4), 2, since=0), (4, 7))
        self.assertEqual(limits.soonest(pair, (0, 0, 4), 2), (4, 7))
        self.assertEqual(limits.soonest(pair, (0, 0, 4), 2, since=4), (4, 7))
        self.assertEqual(limits.soonest(pair, (0, 0, 4), 2, since=99), (99, 99))
        self.assertEqual(limits.soonest((((2, 3),), (0, 1)), (), 2, since=10 ** 60), (10 ** 60 + 1,) * 2)
        self.assertEqual(limits.soonest(((), (0, 0, 1)), (2,), 100), (2,) * 100)
        self.assertEqual(len(limits.soonest(pair, (), 100)), 100)

    def test_most(self):
        for pairs in SMALL[1:]:
            for many in range(6):
                self.assertEqual(limits.most(pairs, many), slow_most((pairs, ALWAYS), 0, many), (pairs, many))
        for most, wide in ALL_LIMITS:
            for many in (0, 1, wide - 1, wide, wide + 1, 2 * wide, 100):
                told = most * (-(-many // wide))
                self.assertEqual(limits.most(((most, wide),), many), told)
        self.assertEqual([limits.most((), many) for many in (0, 1, 2, 100)], [0, None, None, None])

    def test_most_from(self):
        for pair in product(SMALL[1:8], HOURS):
            for start, many in ((0, 0), (0, 3), (1, 4), (2, 3), (3, 1), (4, 4), (7, 3)):
                self.assertEqual(limits.most_from(pair, start, many), slow_most(pair, start, many), (pair, start, many))
        for hours in HOURS:
            for start, many in product(range(7), range(5)):
                opens = any(hours[moment % len(hours)] for moment in range(start, start + many))
                self.assertEqual(limits.most_from(((), hours), start, many), None if opens else 0)
        self.assertEqual(limits.most_from((((1, 2),), (0, 1)), 10 ** 60, 4), 2)
        self.assertEqual(limits.most_from((((6, 1),), ALWAYS), 5, 100), 600)


class TestTidied(unittest.TestCase):
    def test_tidied_limits(self):
        source = random.Random(10)
        for _ in range(400):
            pairs = some_limits(source)
            told = limits.tidied(pairs)
            self.assertTrue(set(told) <= set(pairs), (pairs, told))
            self.assertEqual(list(told), sorted(set(told)))
            self.assertEqual(len({most for most, _ in told}), len(told))
            self.assertEqual(limits.most_table(told), limits.most_table(pairs))
            self.assertEqual(limits.tidied(told), told)
            for place in range(len(told)):
                fewer = told[:place] + told[place + 1:]
                self.assertNotEqual(limits.most_table(fewer), limits.most_table(told))
            self.assertEqual(limits.most_table(pairs), tuple(limits.most(pairs, many) for many in range(1, 13)))

    def test_tables_tell_what_is_alike(self):
        source = random.Random(11)
        rows = [(some_limits(source, 2, 4, 3), some_limits(source, 2, 4, 3)) for _ in range(80)]
        for one, two in rows:
            alike = all(slow_polite((one, ALWAYS), asks) == slow_polite((two, ALWAYS), asks)
                        for asks in ask_rows(range(5), 3))
            self.assertIs(limits.most_table(one) == limits.most_table(two), alike, (one, two))
            self.assertIs(limits.tidied(one) == limits.tidied(two), alike, (one, two))

    def test_by_hand(self):
        for pairs, told in (((), ()), (((1, 1),), ((1, 1),)), (((6, 12), (5, 12)), ((5, 12),)),
                            (((2, 4), (1, 2)), ((1, 2),)),
                            (((2, 5), (1, 2)), ((1, 2), (2, 5))), (((6, 1),), ((6, 1),)), (((4, 4), (2, 2)), ((2, 2),)),
                            (((3, 12), (3, 11)), ((3, 12),)), (((6, 12), (1, 2)), ((1, 2),)),
                            (((5, 12), (1, 2)), ((1, 2), (5, 12))),
                            (((4, 12), (3, 9), (2, 6), (1, 2)), ((1, 2), (2, 6), (3, 9))),
                            (((4, 12), (3, 8), (2, 5), (1, 2)), ((1, 2), (2, 5), (3, 8), (4, 12)))):
            self.assertEqual(limits.tidied(pairs), told)
        self.assertEqual(limits.most_table(()), (None,) * 12)
        self.assertEqual(limits.most_table(((6, 12),)), (6,) * 12)
        self.assertEqual(limits.most_table(((2, 1),)), tuple(range(2, 26, 2)))

    def test_joined(self):
        source = random.Random(12)
        many = {True: 0, False: 0}
        for turn in range(600):
            one, two = some_limits(source), some_limits(source)
            if turn % 2:
                rows = list(enumerate(sorted(source.sample(range(1, 13), 6)), start=1))
                source.shuffle(rows)
                one, two = tuple(rows[:3]), tuple(rows[2:])
            asks = plain_soonest((one + two, ALWAYS), (), 7, 0)
            told = tuple((most, asks[most]) for most in range(1, 7) if self.asks_more(one + two, most, asks))
            many[len(told) > 4] += 1
            if len(told) > 4:
                tells(self, TooMany, None, lambda: limits.joined(one, two))
            else:
                self.assertEqual(limits.joined(one, two), told, (one, two))
                self.assertEqual(limits.joined(two, one), told)
        self.assertGreater(min(many.values()), 5)

    def asks_more(self, pairs, most, asks):
        fewer = tuple(pair for pair in pairs if pair[0] < most)
        return plain_soonest((fewer, ALWAYS), (), most + 1, 0)[most] < asks[most]

    def test_joined_by_hand(self):
        one, two = ((1, 2), (2, 5), (3, 8), (4, 11)), ((5, 12), (6, 1))
        tells(self, TooMany, None, lambda: limits.joined(((1, 1), (2, 3), (3, 5), (4, 7)), ((5, 9),)))
        self.assertEqual(limits.joined(one, two), one)
        self.assertEqual(limits.joined(one, ((1, 12), (6, 1))), ((1, 12),))
        self.assertEqual(limits.joined((), ()), ())

    def test_tidied_hours(self):
        for many in range(1, 9):
            for hours in product((0, 1), repeat=many):
                if 1 in hours:
                    told = limits.tidied_hours(hours)
                    same = [row for size in range(1, many + 1) for row in (hours[:size],)
                            if all(row[at % size] == hours[at % many] for at in range(size * many))]
                    self.assertEqual(told, same[0])
        self.assertEqual(limits.tidied_hours((1, 0, 0) * 4), (1, 0, 0))
        self.assertEqual(limits.tidied_hours((1,) * 12), (1,))


class TestErrors(unittest.TestCase):
    PAIR = (((2, 3), (1, 1)), (1, 1, 0))

    def test_wrong_limits_and_hours(self):
        pairs, hours = given(InvalidLimits, no_limits()), given(InvalidHours, no_hours())
        moments, many = given(InvalidNumber, no_numbers(0)), given(InvalidNumber, no_numbers(0, 100))
        refusals(self, limits.is_open, [("hours", (1, 0)), ("moment", 3)], {"hours": hours, "moment": moments})
        refusals(self, limits.tidied_hours, [("hours", (1, 0))], {"hours": hours})
        refusals(self, limits.most, [("limits", ((2, 3),)), ("moments", 100)], {"limits": pairs, "moments": many})
        for call in (limits.most_table, limits.tidied):
            refusals(self, call, [("limits", ((2, 3),))], {"limits": pairs})
        refusals(self, limits.joined, [("limits", ((2, 3),)), ("other", ((1, 12),))], {"limits": pairs, "other": pairs})
        for changes in ({"limits": ((1, 1), (2, 3), (3, 5), (4, 7)), "other": ((5, 9),)},):
            refusals(self, limits.joined, [("limits", ()), ("other", ())], {"limits": pairs, "other": pairs},
                     last=[(changes, TooMany, None)])

    def test_wrong_rules_and_asks(self):
        pairs, asks = given(InvalidRules, no_rules()), indexed(InvalidAsks, no_asks())
        moments, many = given(InvalidNumber, no_numbers(0)), given(InvalidNumber, no_numbers(0, 100))
        for call in (limits.is_polite, limits.first_wrong):
            refusals(self, call, [("rules", self.PAIR), ("asks", (0, 1))], {"rules": pairs, "asks": asks})
        refusals(self, limits.may_ask, [("rules", self.PAIR), ("asks", (0, 4)), ("moment", 4)],
                 {"rules": pairs, "asks": asks, "moment": moments + [(3, InvalidNumber, 3), (0, InvalidNumber, 0)]},
                 last=[({"asks": (0, 0, 4)}, NotPolite, 1), ({"asks": (0, 2, 4)}, NotPolite, 1)])
        refusals(self, limits.soonest, [("rules", self.PAIR), ("asks", (0, 4)), ("many", 3), ("since", 2)],
                 {"rules": pairs, "asks": asks, "many": many, "since": moments}, ("since",),
                 [({"asks": (0, 0, 4)}, NotPolite, 1), ({"asks": (2,)}, NotPolite, 0)])
        refusals(self, limits.most_from, [("rules", self.PAIR), ("moment", 5), ("moments", 100)],
                 {"rules": pairs, "moment": moments, "moments": many})

    def test_no_moment_behind_no_asks(self):
        for moment in no_numbers(0):
            tells(self, InvalidNumber, moment, lambda: limits.may_ask(self.PAIR, (), moment))
        self.assertEqual(limits.soonest(self.PAIR, (), 3), (0, 1, 3))

    def test_soonest_takes_since_by_name_alone(self):
        self.assertRaises(TypeError, limits.soonest, self.PAIR, (), 1, 0)


if __name__ == "__main__":
    unittest.main()
