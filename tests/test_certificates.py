import random
import unittest
from fractions import Fraction

from gentlerounds import certificates
from gentlerounds.checker import accepts
from gentlerounds.errors import (InvalidAsks, InvalidFraction, InvalidLimits, InvalidLog, InvalidNumber, InvalidRules,
                                 InvalidSetup, InvalidStanding, InvalidTask, InvalidWorld, TooMany)
from gentlerounds.stages import best_sum
from gentlerounds.tables import rate_of
from tests import plain as plainlogs
from tests import plainsetups as plain
from tests.helper import given, indexed, no_asks, no_limits, no_numbers, no_rules, no_tuples, refusals, slow_polite
from tests.helper import some_hours, some_limits
from tests.samples import indexed_wrong, no_worlds, put, some_log, some_row, some_task, some_world
from tests.setupsamples import (JUST, ONE, OVER, PAIR, PRESS, VAST, great_worths, no_fractions, no_setups, no_standings,
                                some_setup)
from tests.test_checker import ASKS, RULES, loose
from tests.test_logjudge import LOG, TASK, WORLD

START = plain.begun(PRESS)
OTHER = {"polite": "not polite", "stricter": "not stricter", "rate up to": "rate from", "sum up to": "sum from",
         "right log": "wrong log"}
OTHER.update({other: word for word, other in OTHER.items()})


class TestClaims(unittest.TestCase):
    def check(self, told, word, *parts):
        """Check a pair: its claim and its parts, and that it is accepted, but not the other claim with this paper."""
        self.assertEqual(type(told), tuple)
        claim, paper = told
        self.assertEqual(claim, (word,) + parts)
        for one, other in zip(claim[1:], parts):
            self.assertIs(one, other)
        self.assertIs(accepts(claim, paper), True)
        self.assertIs(accepts((OTHER[word],) + parts, paper), False)
        return paper

    def test_asks(self):
        source = random.Random(140)
        seen = {True: 0, False: 0}
        for _ in range(300):
            rules = (some_limits(source, 3, 6, 2), some_hours(source, 3))
            asks = tuple(sorted(source.randint(0, 12) for _ in range(source.randint(0, 5))))
            right = slow_polite(rules, asks)
            seen[right] += 1
            paper = self.check(certificates.certify_polite(rules, asks), "polite" if right else "not polite", rules,
                               asks)
            self.assertEqual(paper, ())
        self.assertGreater(min(seen.values()), 50)
        self.check(certificates.certify_polite(RULES, ASKS), "polite", RULES, ASKS)

    def test_limits(self):
        source = random.Random(141)
        seen = {True: 0, False: 0}
        pairs = [(some_limits(source, 4, 6, 2), some_limits(source, 4, 6, 2)) for _ in range(300)]
        for limits, other in pairs + [((), ()), ((), ((6, 1),)), (((6, 1),), ()), (((1, 12),), ((6, 12),))]:
            row = loose(limits, other)
            paper = self.check(certificates.certify_stricter(limits, other), "stricter" if row is None
                               else "not stricter",
                               limits, other)
            seen[row is None] += 1
            if row is None:
                self.assertEqual(paper, ())
            else:
                self.assertIs(slow_polite((limits, (1,)), paper), True)
                self.assertIs(slow_polite((other, (1,)), paper), False)
        self.assertGreater(min(seen.values()), 50)

    def test_rates(self):
        source = random.Random(142)
        for setup in [PRESS, PAIR] + [some_setup(source, 40) for _ in range(25)] + [
                some_setup(source, 20, great_worths) for _ in range(5)]:
            rate = plain.number(rate_of(setup))
            for more in (Fraction(-9), Fraction(-1, 10 ** 9), Fraction(0), Fraction(1, 10 ** 9), Fraction(9)):
                number = plain.pair(rate + more)
                word = "rate up to" if more >= 0 else "rate from"
                paper = self.check(certificates.certify_rate(setup, number), word, setup, number)
                if more >= 0:
                    self.assertIs(plain.takes_table(setup, {repr(one) for one, _ in paper[1]}, paper), True)
                    self.assertLessEqual(plain.number(paper[0]), rate + more)
                else:
                    self.assertIs(plain.is_ring(setup, paper), True)
                    self.assertGreaterEqual(plain.mean(setup, paper), rate + more)
        self.check(certificates.certify_rate(JUST, (32, 3)), "rate up to", JUST, (32, 3))
        self.check(certificates.certify_rate(JUST, (31, 3)), "rate from", JUST, (31, 3))

    def test_sums(self):
        source = random.Random(143)
        for setup in [PRESS, PAIR, OVER] + [some_setup(source, 40) for _ in range(30)]:
            starts = [plain.begun(setup)] + ([source.choice(plain.standings(setup))] if setup is not OVER else [])
            for here in starts:
                for n in (0, 1, 3) + ((12,) if setup is not OVER else ()):
                    best = plain.number(best_sum(setup, here, n))
                    for more in (Fraction(-1, 10 ** 9), Fraction(0), Fraction(1, 10 ** 9)):
                        number = plain.pair(best + more)
                        word = "sum up to" if more >= 0 else "sum from"
                        paper = self.check(certificates.certify_sum(setup, here, n, number), word, setup, here, n,
                                           number)
                        self.assertEqual(len(paper), n + 1 if more >= 0 else n)

    def test_logs(self):
        source = random.Random(144)
        seen = {True: 0, False: 0}
        for _ in range(150):
            world = some_world(source)
            task = some_task(source, world)
            log = some_log(source, world, task, 10)
            moment = log[-1][0] if log else task[4][-1][0] if task[4] else 0
            for value in (log, log + (some_row(source, world, task, log, moment),), log[::-1], log + (None,), log[1:]):
                right = self.is_right(world, task, value)
                seen[right] += 1
                paper = self.check(certificates.certify_log(world, task, value), "right log" if right else "wrong log",
                                   world, task, value)
                self.assertEqual(paper, ())
        self.assertGreater(min(seen.values()), 50)
        self.check(certificates.certify_log(WORLD, TASK, LOG), "right log", WORLD, TASK, LOG)
        for value in ((None,), ("",), ([],), LOG + ((),), ((0,),)):
            self.check(certificates.certify_log(WORLD, TASK, value), "wrong log", WORLD, TASK, value)

    def is_right(self, world, task, value):
        return all(row is not None and plainlogs.reason(world, task, value[:at], row) is None
                   for at, row in enumerate(value))


class TestErrors(unittest.TestCase):
    def test_errors(self):
        rules = given(InvalidRules, no_rules()[::2])
        refusals(self, certificates.certify_polite, [("rules", RULES), ("asks", ASKS)],
                 {"rules": rules, "asks": indexed(InvalidAsks, no_asks())})
        limits = given(InvalidLimits, no_limits())
        refusals(self, certificates.certify_stricter, [("limits", ((1, 3),)), ("other", ((2, 6),))],
                 {"limits": limits, "other": limits})
        wrong = {"setup": given(InvalidSetup, no_setups()[::3]),
                 "standing": given(InvalidStanding, no_standings(PRESS)),
                 "n": given(InvalidNumber, no_numbers(0, 12)),
                 "number": given(InvalidFraction, [one for one in no_fractions() if one != (-1, 1)])}
        refusals(self, certificates.certify_rate, [("setup", PRESS), ("number", (11, 4))], wrong,
                 last=[({"setup": OVER}, TooMany, None), ({"setup": VAST}, TooMany, None)])
        refusals(self, certificates.certify_sum, [("setup", PRESS), ("standing", START), ("n", 2), ("number", ONE)],
                 wrong)
        tasks = [(None, None), ([], None), (TASK[:4], None), (put(TASK, 0, "A"), 0), (put(TASK, 1, None), 1),
                 (put(TASK, 2, 0), 2), (put(TASK, 3, True), 3), (put(TASK, 4, ((0, 0),)), 4)]
        wrong = {"world": indexed_wrong(InvalidWorld, no_worlds()[::9]),
                 "task": [(value, InvalidTask, index) for value, index in tasks],
                 "value": [(value, InvalidLog, None) for value in no_tuples()]}
        refusals(self, certificates.certify_log, [("world", WORLD), ("task", TASK), ("value", LOG)], wrong)

    def test_no_bound_to_sums(self):
        claim, _ = certificates.certify_sum(VAST, plain.begun(VAST), 2, (0, 1))
        self.assertEqual(claim[0], "sum from")
        for number in ((-1, 1), (-7, 2)):
            self.assertEqual(certificates.certify_rate(PRESS, number)[0][0], "rate from")
            self.assertEqual(certificates.certify_sum(PRESS, START, 0, number)[0][0], "sum from")


if __name__ == "__main__":
    unittest.main()
