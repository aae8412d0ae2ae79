import random
import unittest
from itertools import product

from gentlerounds import limits, sharing
from gentlerounds.errors import InvalidLimits, InvalidNumber, InvalidParts, InvalidRows, InvalidRules, NoShare
from tests.helper import (ALL_LIMITS, any_values, ask_rows, given, indexed, no_limits, no_numbers, no_rules, refusals,
                          slow_polite, some_hours, some_limits, tells)

ALWAYS = (1,)
HOURS = [(1,), (1, 0), (0, 1), (1, 1, 0), (0, 0, 1), (1, 0, 1)]
PAIRS = [(), ((1, 1),), ((1, 2),), ((2, 3),), ((1, 4),), ((2, 4), (1, 2)), ((2, 2),), ((2, 4), (1, 1)), ((2, 1),)]
CREWS = [(((1, 1),), 0), (((1, 1),), 2), (((1, 2),), 0), (((1, 2),), 1), (((2, 3),), 0), (((2, 3),), 2),
         (((1, 3), (2, 2)), 1)]


def slow_row(part, row):
    """Whether this is a row of the part."""
    asked, come = [pair[0] for pair in row], [pair[1] for pair in row]
    late = all(one <= two <= one + part[1] for one, two in row)
    return late and asked == sorted(asked) and come == sorted(come) and slow_polite((part[0], ALWAYS), tuple(asked))


def all_rows(part, moments, longest):
    """All rows of the part with asks at these moments."""
    for asks in ask_rows(moments, longest):
        for lates in product(range(part[1] + 1), repeat=len(asks)):
            row = tuple((ask, ask + late) for ask, late in zip(asks, lates))
            if slow_row(part, row):
                yield row


class TestStricter(unittest.TestCase):
    @classmethod
    def setUpClass(cls):
        # Where any asks part two of these rules, some of at most three asks below moment 7 do.
        cls.asks = ask_rows(range(7), 3)
        cls.rules = list(product(PAIRS, HOURS))
        cls.polite = {pair: sum(1 << at for at, row in enumerate(cls.asks) if slow_polite(pair, row))
                      for pair in cls.rules}

    def test_against_all_small_rows(self):
        for one in self.rules:
            for two in self.rules:
                loose = self.polite[one] & ~self.polite[two]
                self.assertIs(sharing.is_stricter(one, two), not loose, (one, two))
                row = sharing.loose_row(one, two)
                if loose:
                    self.assertTrue(slow_polite(one, row) and not slow_polite(two, row), (one, two))
                    self.assertEqual(row, sharing.loose_row(one, two))
                else:
                    self.assertIsNone(row)
                alike = self.polite[one] == self.polite[two]
                self.assertIs(sharing.are_alike_rules(one, two), alike, (one, two))
                if one[1] == two[1] == ALWAYS:
                    self.assertIs(sharing.are_alike_limits(one[0], two[0]), alike)

    def test_larger_rules(self):
        source = random.Random(16)
        told = {True: 0, False: 0}
        for _ in range(400):
            one, two = [(some_limits(source, pairs=2), some_hours(source)) for _ in range(2)]
            two = (two[0], source.choice((ALWAYS, one[1], two[1])))
            row = sharing.loose_row(one, two)
            told[row is None] += 1
            if row is not None:
                self.assertTrue(slow_polite(one, row) and not slow_polite(two, row))
                self.assertLessEqual(len(row), 7)
            else:
                for start in range(13):
                    asks = limits.soonest(one, (), 15, since=start)
                    self.assertIs(limits.is_polite(two, asks), True)
                    self.assertIs(limits.is_polite(two, asks[::2]), True)
        self.assertGreater(min(told.values()), 50)

    def test_by_hand(self):
        self.assertIs(sharing.is_stricter(((), (1, 0, 0)), ((), (1, 0))), False)
        self.assertEqual(sharing.loose_row(((), (1, 0, 0)), ((), (1, 0))), (3,))
        self.assertIs(sharing.is_stricter(((), (1, 0, 0, 0)), ((), (1, 0))), True)
        self.assertIs(sharing.is_stricter(((), (0, 1)), (((6, 1),), (0, 1))), False)
        self.assertIs(sharing.is_stricter((((6, 12),), ALWAYS), (((6, 1),), ALWAYS)), True)
        self.assertIs(sharing.is_stricter((((1, 2),), (1, 0, 0, 0, 0)), (((1, 5),), ALWAYS)), True)
        self.assertIs(sharing.is_stricter((((1, 2),), (1, 0, 0, 0, 0)), (((1, 6),), ALWAYS)), False)
        self.assertIs(sharing.is_stricter((((1, 2),), (1, 0, 0, 1, 1)), (((2, 4),), ALWAYS)), True)
        self.assertIs(sharing.is_stricter((((1, 1),), (1, 0, 0, 1, 1)), (((2, 4),), ALWAYS)), False)
        self.assertIs(sharing.are_alike_rules((((1, 2),), (1, 0)), (((1, 1),), (1, 0, 1, 0))), True)
        self.assertIs(sharing.are_alike_limits(((2, 4), (1, 2)), ((1, 2), (2, 3))), True)

    def test_errors(self):
        wrong, pairs = given(InvalidRules, no_rules()), given(InvalidLimits, no_limits())
        one, two = (((2, 3),), (1, 0)), (((1, 1),), ALWAYS)
        for call in (sharing.is_stricter, sharing.loose_row, sharing.are_alike_rules):
            refusals(self, call, [("rules", one), ("other", two)], {"rules": wrong, "other": wrong})
        refusals(self, sharing.are_alike_limits, [("limits", one[0]), ("other", two[0])],
                 {"limits": pairs, "other": pairs})


class TestKeep(unittest.TestCase):
    @classmethod
    def setUpClass(cls):
        # For each part the most that comes in so many moments from each start on, of all its rows.
        cls.most = {}
        for part in CREWS:
            rows = list(all_rows(part, range(6), 4))
            for start, wide in product(range(4), (1, 2)):
                cls.most[part, start, wide] = max(sum(1 for _, come in row if start <= come < start + wide)
                                                  for row in rows)

    def test_against_all_rows(self):
        for crews in [(one,) for one in CREWS] + list(product(CREWS, CREWS)) + [(one, one, CREWS[3]) for one in CREWS]:
            for most, wide in product(range(1, 7), (1, 2)):
                kept = all(sum(self.most[part, start, wide] for part in crews) <= most for start in range(4))
                for shared in (((most, wide),), ((6, 1), (most, wide)) if kept and most < 6 else ((most, wide),)):
                    self.check(crews, shared, kept if len(shared) == 1 else None)

    def check(self, crews, shared, kept):
        told = sharing.keep(crews, shared)
        if kept is not None:
            self.assertIs(told, kept, (crews, shared))
        rows = sharing.breaking(crews, shared)
        self.assertEqual(rows, sharing.breaking(crews, shared))
        if told:
            self.assertIsNone(rows)
            return
        self.assertEqual(len(rows), len(crews))
        for part, row in zip(crews, rows):
            self.assertTrue(slow_row(part, row), (part, row))
            self.assertLessEqual(len(row), 200)
        come = tuple(sorted(come for row in rows for _, come in row))
        self.assertEqual(sharing.arrivals(crews, rows), come)
        self.assertFalse(slow_polite((shared, ALWAYS), come))

    def test_larger_parts(self):
        source = random.Random(17)
        told = {True: 0, False: 0}
        for _ in range(400):
            crews = tuple((some_limits(source, 3, 12, 3), source.choice((0, 1, 5, 24)))
                          for _ in range(source.randint(1, 4)))
            shared = some_limits(source, 6, 6, 2)
            sums = [[limits.most(pairs, wide + late) for pairs, late in crews] for _, wide in shared]
            kept = all(None not in row and sum(row) <= most for row, (most, _) in zip(sums, shared))
            told[kept] += 1
            self.check(crews, shared, kept)
        self.assertGreater(min(told.values()), 40)

    def test_many_asks(self):
        for shared in (((6, 12),), ((1, 1),), ((6, 1), (6, 12))):
            self.check(((((6, 1),), 24),) * 6, shared, False)
            self.check((((), 24), (((1, 12),), 0)), shared, False)
            self.check((((), 0),), shared, False)
        self.check((((), 3), ((), 0)), (), True)
        self.check(((((1, 12),), 0),) * 6, ((6, 12),), True)
        self.check(((((1, 12),), 1),) * 6, ((6, 12),), False)
        self.check(((((1, 12),), 0),) * 5 + ((((1, 12),), 1),), ((6, 12),), False)

    def test_arrivals(self):
        crews = ((((1, 2),), 1), (((2, 3),), 0))
        self.assertEqual(sharing.arrivals(crews, ((), ())), ())
        self.assertEqual(sharing.arrivals(crews, (((5, 6), (7, 7)), ((0, 0), (0, 0), (6, 6)))), (0, 0, 6, 6, 7))
        self.assertEqual(sharing.arrivals((((), 24),), (((0, 24),) * 200,)), (24,) * 200)
        for late, come, right in ((0, 3, True), (0, 4, False), (0, 2, False), (1, 4, True), (1, 5, False),
                                  (24, 27, True), (24, 28, False)):
            row = ((3, come),)
            if right:
                self.assertEqual(sharing.arrivals(((((1, 2),), late),), (row,)), (come,))
            else:
                tells(self, InvalidRows, 0, lambda: sharing.arrivals(((((1, 2),), late),), (row,)))


class TestDealt(unittest.TestCase):
    def test_all_small_ones(self):
        source = random.Random(18)
        for shared in [()] + [(pair,) for pair in ALL_LIMITS[::5]] + [some_limits(source, 6, 8) for _ in range(40)]:
            for many, late in product(range(1, 7), (0, 1, 2, 6, 11, 24)):
                told = tuple(tuple((len(range(crawler, most, many)), wide + late) for most, wide in shared)
                             for crawler in range(many))
                if all(limits.are_limits(row) for row in told):
                    self.assertEqual(sharing.dealt(shared, many, late), told)
                    self.assertIs(sharing.keep(tuple((row, late) for row in told), shared), True)
                else:
                    tells(self, NoShare, None, lambda: sharing.dealt(shared, many, late))

    def test_edges(self):
        self.assertEqual(sharing.dealt(((5, 11),), 1, 1), (((5, 12),),))
        tells(self, NoShare, None, lambda: sharing.dealt(((5, 11),), 1, 2))
        tells(self, NoShare, None, lambda: sharing.dealt(((6, 1), (5, 1)), 6, 0))
        self.assertEqual(sharing.dealt((), 3, 24), ((), (), ()))
        self.assertEqual(sharing.dealt(((6, 1),), 4, 0), (((2, 1),), ((2, 1),), ((1, 1),), ((1, 1),)))

    def test_most_crawlers(self):
        source = random.Random(19)
        found = set()
        for _ in range(300):
            pairs, shared = some_limits(source, 2, 12, 2), some_limits(source, 6, 6, 2)
            late = source.choice((0, 1, 3, 24))
            told = sharing.most_crawlers(pairs, late, shared)
            found.add(told)
            for many in range(1, 7):
                kept = sharing.keep(((pairs, late),) * many, shared)
                self.assertIs(kept, told is None or many <= told, (pairs, late, shared))
        self.assertEqual(found, {None, 0, 1, 2, 3, 4, 5, 6})

    def test_most_crawlers_by_hand(self):
        self.assertIsNone(sharing.most_crawlers((), 24, ()))
        self.assertIsNone(sharing.most_crawlers(((1, 1),), 0, ()))
        self.assertEqual(sharing.most_crawlers((), 0, ((6, 12),)), 0)
        self.assertEqual(sharing.most_crawlers(((1, 12),), 0, ((6, 12),)), 6)
        self.assertEqual(sharing.most_crawlers(((1, 12),), 1, ((6, 12),)), 3)
        self.assertEqual(sharing.most_crawlers(((6, 1),), 24, ((6, 12),)), 0)


class TestErrors(unittest.TestCase):
    NO_PARTS = any_values() + [(), ((),), (((1, 2),), 1, 1), [((1, 2),), 1], (((1, 2),), -1), (((1, 2),), 25),
                               (((1, 2),), True),
                               (((1, 2),), None), (((1, 2),), "1"), (((0, 2),), 1), (1, ((1, 2),)), (((1, 2),) * 5, 1),
                               (None, 1),
                               ([(1, 2)], 1), (((1, 2),), (1,)), 1]
    GOOD = ((((2, 3),), 2), ((), 24))

    def wrong_parts(self):
        rows = [((value,), 0) for value in self.NO_PARTS] + [(self.GOOD + (value,) + self.GOOD, 2)
                                                             for value in self.NO_PARTS]
        return indexed(InvalidParts, rows + [((), None), (self.GOOD * 4, None), ((1,) * 7, None)])

    def wrong_rows(self):
        first = [(), ((0, 0),), ((3, 5), (5, 5)), ((0, 2), (0, 2), (3, 3))]
        bad = any_values() + ["1", 1, ((0, 0), None), ((0,),), ((0, 0, 0),), ([0, 0],), ((0, 3),), ((1, 0),),
                              ((-1, 0),), ((-1, -1),),
                              ((True, 1),), ((0, True),), ((0, None),), (("0", 0),), ((0, 0), (0, 0), (2, 2)),
                              ((3, 5), (3, 4)),
                              ((3, 3), (2, 4)), ((0, 0), (1, 0)), [(0, 0)], (0, 0)]
        rows = [((value, ()), 0) for value in bad] + [((row, value), 1) for row in first
                                                      for value in any_values() + [((0, 25),)]]
        rows += [((((0, 0),), ((0, 0),) * 201), 1), ((), None), (((),), None), (((), (), ()), None)]
        for row in first:
            self.assertEqual(len(sharing.arrivals(self.GOOD, (row, row))), 2 * len(row))
        return indexed(InvalidRows, rows)

    def test_errors_of_parts(self):
        pairs = given(InvalidLimits, no_limits())
        for call in (sharing.keep, sharing.breaking):
            refusals(self, call, [("parts", self.GOOD), ("shared", ((2, 3),))],
                     {"parts": self.wrong_parts(), "shared": pairs})
        refusals(self, sharing.arrivals, [("parts", self.GOOD), ("rows", ((), ((0, 0),) * 200))],
                 {"parts": self.wrong_parts(), "rows": self.wrong_rows()})

    def test_errors_of_shares(self):
        pairs, late = given(InvalidLimits, no_limits()), given(InvalidNumber, no_numbers(0, 24))
        refusals(self, sharing.dealt, [("shared", ((6, 3),)), ("many", 6), ("late", 9)],
                 {"shared": pairs, "many": given(InvalidNumber, no_numbers(1, 6)), "late": late},
                 last=[({"late": 10}, NoShare, None), ({"shared": ((5, 3),)}, NoShare, None)])
        refusals(self, sharing.most_crawlers, [("limits", ((1, 2),)), ("late", 24), ("shared", ((6, 1),))],
                 {"limits": pairs, "late": late, "shared": pairs})


if __name__ == "__main__":
    unittest.main()
