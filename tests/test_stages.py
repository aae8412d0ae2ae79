import random
import unittest

from gentlerounds import stages
from gentlerounds.errors import InvalidNumber, InvalidSetup, InvalidStanding
from gentlerounds.setups import begun, sum_of
from tests import plainsetups as plain
from tests.helper import any_values, given, no_numbers, no_tuples, refusals
from tests.samples import put
from tests.setupsamples import (EDGE, ONE, OVER, PAIR, PRESS, SHORT, changes, no_setups, no_standings, some_acts,
                                some_setup)

START = plain.begun(PRESS)


class TestBestSums(unittest.TestCase):
    def test_by_hand(self):
        self.assertEqual([stages.best_sum(PRESS, START, n) for n in range(9)],
                         [(0, 1), (3, 1), (5, 1), (9, 1), (11, 1), (14, 1), (16, 1), (20, 1), (22, 1)])
        # From a standing with copies, and right behind an ask.
        self.assertEqual(stages.best_sum(PRESS, (0, ((0,),), (0, 0)), 1), (5, 1))
        self.assertEqual(stages.best_sum(PRESS, (0, ((1,),), (0, 0)), 1), (4, 1))
        shut = (((((1, 1),), (0, 0, 0, 1)),), ((0, ((1, 3),)),), 1)
        self.assertEqual([stages.best_sum(shut, begun(shut), n) for n in range(10)],
                         [(0, 1)] * 4 + [(1, 3)] * 4 + [(2, 3)] * 2)

    def test_all_rows(self):
        source = random.Random(85)
        seen = longest = 0
        for _ in range(90):
            setup = some_setup(source, 60)
            for here in (plain.begun(setup), source.choice(plain.standings(setup))):
                best = 0
                for n in range(13):
                    rows = plain.rows(setup, here, n)
                    if len(rows) > 400:
                        break
                    longest = max(longest, n)
                    greatest = max(total for _, total, _ in rows)
                    self.assertGreaterEqual(greatest, best)
                    best = greatest
                    self.assertEqual(stages.best_sum(setup, here, n), plain.pair(best))
                    row = stages.best_row(setup, here, n)
                    self.assertIn((row, best), [(one, total) for one, total, _ in rows])
                    self.assertEqual(sum_of(setup, here, row), plain.pair(best))
                    self.check_staged(setup, here, n)
                    seen += 1
        self.assertGreater(seen, 200)
        self.assertEqual(longest, 12)

    def check_staged(self, setup, here, n):
        """The told table has just the standings that n - k acts lead to, with their best sums of k moments."""
        table = stages.staged(setup, here, n)
        self.assertEqual(len(table), n + 1)
        for k in range(n + 1):
            led = sorted({last for _, _, last in plain.rows(setup, here, n - k)})
            self.assertEqual([one for one, _ in table[k]], led)
            for one, number in table[k][:2]:
                self.assertEqual(number, plain.pair(max(total for _, total, _ in plain.rows(setup, one, k))))
        self.assertIs(stages.takes_staged(setup, here, n, table), True)

    def test_long_rows(self):
        source = random.Random(86)
        for setup in [PRESS, PAIR] + [some_setup(source, 40) for _ in range(20)]:
            here = plain.begun(setup)
            for n in (7, 12):
                best = stages.best_sum(setup, here, n)
                self.assertEqual(stages.staged(setup, here, n)[n], ((here, best),))
                self.assertEqual(sum_of(setup, here, stages.best_row(setup, here, n)), best)
                self.assertIs(stages.takes_staged(setup, here, n, stages.staged(setup, here, n)), True)
                for _ in range(10):
                    row = some_acts(source, setup, here, n)
                    self.assertLessEqual(plain.sum_of(setup, here, row), plain.number(best))

    def test_of_m_and_n_moments(self):
        source = random.Random(87)
        for setup in [PRESS, PAIR] + [some_setup(source, 30) for _ in range(10)]:
            here, found = plain.begun(setup), plain.walk(setup)
            sums = {n: max(plain.number(stages.best_sum(setup, one, n)) for one in found) for n in (2, 3)}
            for m, n in ((2, 3), (3, 2), (5, 2), (0, 3)):
                both, first = [plain.number(stages.best_sum(setup, here, many)) for many in (m + n, m)]
                self.assertLessEqual(both, first + sums[n])
                self.assertGreaterEqual(both, first)

    def test_many_standings(self):
        self.assertEqual(stages.best_sum(OVER, begun(OVER), 3), (35, 1))
        self.assertEqual(max(plain.rows(OVER, begun(OVER), 3), key=lambda row: row[1])[1], 35)
        self.assertIs(stages.takes_staged(OVER, begun(OVER), 3, stages.staged(OVER, begun(OVER), 3)), True)


class TestJudge(unittest.TestCase):
    def check(self, value, right, setup=PRESS, here=START, n=2):
        self.assertIs(stages.takes_staged(setup, here, n, value), right, repr(value)[:300])

    def test_by_hand(self):
        table = stages.staged(PRESS, START, 2)
        self.check(table, True)
        self.check(table[1:], False)
        self.check(table[:2], False)
        self.check(table + table[2:], False)
        self.check(table[::-1], False)
        self.check(table[:1] + table[:1] + table[2:], False)
        self.check(table, False, n=1)
        self.check(table, False, n=3)
        self.check(table[1:], True, n=1)
        self.check((((START, (0, 1)),),), True, n=0)
        self.check((((START, (1, 9)),),), True, n=0)
        self.check((((START, (-1, 9)),),), False, n=0)
        self.check(((),), False, n=0)
        # From another standing the same table is none, but one with more standings may be one for several.
        self.check(table, False, here=table[1][1][0])
        every = tuple((one, (12, 1)) for one in sorted(plain.standings(PRESS)))
        flat = (tuple((one, (0, 1)) for one, _ in every), tuple((one, (6, 1)) for one, _ in every), every)
        for one, _ in every:
            self.check(flat, True, here=one)

    def test_numbers_changed(self):
        for setup, n in ((PRESS, 3), (PAIR, 2)):
            here = plain.begun(setup)
            table = stages.staged(setup, here, n)
            for k in range(n + 1):
                for at, (one, (top, bottom)) in enumerate(table[k]):
                    higher = (top * 1000 + bottom, bottom * 1000)
                    lower = plain.pair(plain.number((top, bottom)) - plain.number((1, 1000)))
                    told = put(table, k, put(table[k], at, (one, lower)))
                    # Each number is a best sum, so a lower one lets some act come above it, or is below 0.
                    self.check(told, False, setup, here, n)
                    told = put(table, k, put(table[k], at, (one, plain.pair(plain.number(higher)))))
                    self.check(told, plain.takes_staged(setup, plain.every_standing(setup), here, n, told), setup, here,
                               n)
        top = stages.staged(PRESS, START, 2)
        self.check(top[:2] + (((START, (51, 10)),),), True)
        self.check(top[:2] + (((START, (49, 10)),),), False)

    def test_pairs_changed(self):
        table = stages.staged(PAIR, plain.begun(PAIR), 2)
        for k in range(3):
            for at in range(len(table[k])):
                told = put(table, k, table[k][:at] + table[k][at + 1:])
                self.check(told, False, PAIR, plain.begun(PAIR), 2)
                told = put(table, k, table[k][:at] + table[k][at:at + 1] + table[k][at:])
                self.check(told, False, PAIR, plain.begun(PAIR), 2)
            if len(table[k]) > 1:
                self.check(put(table, k, table[k][::-1]), False, PAIR, plain.begun(PAIR), 2)
        one, number = table[1][0]
        self.check(put(table, 1, table[1][:1] + ((one, (99, 1)),) + table[1][1:]), False, PAIR, plain.begun(PAIR), 2)
        # Further standings do no harm as long as their acts are held, too.
        more = tuple(sorted(table[0] + (((5, ((0, 0), ()), (2, 1, 2)), (0, 1)),)))
        self.check(put(table, 0, more), True, PAIR, plain.begun(PAIR), 2)
        more = tuple(sorted(table[1] + (((5, ((0, 0), ()), (2, 1, 2)), (0, 1)),)))
        self.check(put(table, 1, more), False, PAIR, plain.begun(PAIR), 2)

    def test_any_changes(self):
        seen = {True: 0, False: 0}
        for setup, n in ((PRESS, 1), (PRESS, 0), (PRESS, 2)):
            here, every = plain.begun(setup), plain.every_standing(setup)
            table = stages.staged(setup, here, n)
            wrong = SHORT + (here, (here, ONE), (plain.step(setup, here, ()), (9, 1)))
            for value in changes(table, wrong):
                right = plain.takes_staged(setup, every, here, n, value)
                self.check(value, right, setup, here, n)
                seen[right] += 1
        self.assertGreater(min(seen.values()), 10, seen)

    def test_any_values(self):
        for value in no_tuples() + any_values() + [(None,) * 3, ((), (), ()), (((START, (9, 1)),),) * 3]:
            for n in (0, 1, 2):
                self.check(value, False, n=n)


class TestErrors(unittest.TestCase):
    def test_errors(self):
        here = plain.begun(PAIR)
        wrong = {"setup": given(InvalidSetup, no_setups()[::5]),
                 "standing": given(InvalidStanding, no_standings(PAIR)[::2]),
                 "n": given(InvalidNumber, no_numbers(0, 12))}
        good = [("setup", PAIR), ("standing", here), ("n", 2)]
        for call in (stages.best_sum, stages.best_row, stages.staged):
            refusals(self, call, good, wrong)
        refusals(self, stages.takes_staged, good + [("value", stages.staged(PAIR, here, 2))], wrong)
        small = (((((1, 4),), (1, 0, 0)),), ((0, (ONE,)),), 1)
        for n in range(13):
            self.assertEqual(stages.best_sum(small, plain.begun(small), n), ((n + 5) // 6, 1))

    def test_no_table_for_another_setup(self):
        table = stages.staged(PRESS, START, 1)
        for setup in (PAIR, EDGE):
            self.assertIs(stages.takes_staged(setup, plain.begun(setup), 1, table), False)


if __name__ == "__main__":
    unittest.main()
