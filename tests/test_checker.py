import random
import unittest
from fractions import Fraction

from gentlerounds.certificates import certify_log, certify_polite, certify_rate, certify_stricter, certify_sum
from gentlerounds.checker import accepts
from gentlerounds.rings import ring_of
from gentlerounds.stages import staged
from gentlerounds.tables import rate_of, told_table
from tests import plain as plainlogs
from tests import plainsetups as plain
from tests.helper import Echo, any_values, no_limits, no_rules, no_tuples, slow_polite, some_hours, some_limits
from tests.samples import no_worlds, put, some_crawl, some_log, some_row, some_task, some_world
from tests.setupsamples import (JUST, ONE, OVER, PAIR, PRESS, SHORT, VAST, changes, no_fractions, no_setups,
                                no_standings, some_acts, some_setup)
from tests.test_logjudge import LOG, TASK, WORLD
from tests.test_rings import FAIR, TURN, some_ring
from tests.test_tables import flat, most

RULES = (((2, 3), (3, 5)), (1, 1, 0))
ASKS = (0, 0, 3, 6, 6)
START = plain.begun(PRESS)
TABLE = told_table(PRESS)
STAGED = staged(PRESS, START, 2)
WORDS = ("polite", "not polite", "stricter", "not stricter", "rate up to", "rate from", "sum up to", "sum from",
         "right log", "wrong log")
# Of each claim the paper that is accepted.
PAIRS = {("polite", RULES, ASKS): (), ("not polite", RULES, ASKS + (7,)): (), ("stricter", ((1, 3),), ((2, 6),)): (),
         ("not stricter", ((2, 6),), ((1, 3),)): (0, 0), ("rate up to", PRESS, (11, 4)): TABLE,
         ("rate from", PRESS, (11, 4)): FAIR, ("sum up to", PRESS, START, 2, (5, 1)): STAGED,
         ("sum from", PRESS, START, 2, (5, 1)): ((0,), ()), ("right log", WORLD, TASK, LOG): (),
         ("wrong log", WORLD, TASK, LOG[:3] + LOG[:1]): ()}


def are_form(value, check):
    return type(value) is tuple and all(check(one) for one in value)


def is_number(value, low, high):
    return type(value) is int and low <= value <= high


def are_limits(value):
    return are_form(value, lambda one: type(one) is tuple and len(one) == 2 and is_number(one[0], 1, 6)
                    and is_number(one[1], 1, 12)) and len(value) < 5


def are_hours(value):
    return are_form(value, lambda one: is_number(one, 0, 1)) and 1 <= len(value) <= 12 and 1 in value


def are_asks(value):
    return are_form(value, lambda one: type(one) is int and one >= 0) and tuple(sorted(value)) == value


def plain_accepts(claim, paper):
    """Whether a paper is one for a claim about asks, limits or set-ups, straight from the document."""
    if type(claim) is not tuple or not claim or type(claim[0]) is not str:
        return False
    word, *parts = claim
    if word in ("polite", "not polite") and len(parts) == 2:
        rules, asks = parts
        if type(rules) is not tuple or len(rules) != 2 or not are_limits(rules[0]) or not are_hours(rules[1]):
            return False
        right = are_asks(asks) and type(paper) is tuple and paper == ()
        return right and slow_polite(rules, asks) == (word == "polite")
    if word in ("stricter", "not stricter") and len(parts) == 2:
        if not are_limits(parts[0]) or not are_limits(parts[1]):
            return False
        if word == "stricter":
            return type(paper) is tuple and paper == () and loose(*parts) is None
        return are_asks(paper) and slow_polite((parts[0], (1,)), paper) and not slow_polite((parts[1], (1,)), paper)
    return plain_accepts_of_setup(word, parts, paper)


def plain_accepts_of_setup(word, parts, paper):
    if not parts or not plain.is_setup(parts[0]) or not plain.is_number(parts[-1]):
        return False
    setup = parts[0]
    every = plain.every_standing(setup)
    if word in ("rate up to", "rate from") and len(parts) == 2:
        if plain.walk(setup, most=400) is None:
            return False
        if word == "rate up to":
            return plain.takes_table(setup, every, paper) and plain.number(paper[0]) <= plain.number(parts[1])
        return plain.is_ring(setup, paper) and plain.mean(setup, paper) >= plain.number(parts[1])
    if word not in ("sum up to", "sum from") or len(parts) != 4 or repr(parts[1]) not in every:
        return False
    _, here, n, number = parts
    if not is_number(n, 0, 12):
        return False
    if word == "sum up to":
        return (plain.takes_staged(setup, every, here, n, paper)
                and plain.number(dict(paper[n])[here]) <= plain.number(number))
    right = type(paper) is tuple and len(paper) == n and plain.behind_acts(setup, here, paper) is not None
    return right and plain.sum_of(setup, here, paper) >= plain.number(number)


def loose(limits, other):
    """Asks that are polite for the limits and not for the others, those that come as soon as they may; None."""
    row = ()
    for moment in range(60):
        while len(row) < 40 and slow_polite((limits, (1,)), row + (moment,)):
            row += (moment,)
            if not slow_polite((other, (1,)), row):
                return row
    return None


class TestAccepts(unittest.TestCase):
    def check(self, claim, paper, right):
        self.assertIs(accepts(claim, paper), right, repr((claim, paper))[:400])

    def test_told_ones(self):
        self.assertEqual(tuple(claim[0] for claim in PAIRS), WORDS)
        for claim, paper in PAIRS.items():
            self.check(claim, paper, True)
            self.assertIs(accepts(claim=claim, paper=paper), True)

    def test_other_words(self):
        for claim, paper in PAIRS.items():
            for word in WORDS + ("", "Polite", "polite ", " polite", "not", "rate", "log", "sum upto", "notpolite"):
                if word != claim[0] and (claim[0], word) != ("not stricter", "stricter"):
                    self.check((word,) + claim[1:], paper, False)
            for word in any_values() + [(claim[0],), [claim[0]], claim[0].encode()]:
                self.check((word,) + claim[1:], paper, False)

    def test_other_papers(self):
        for claim in PAIRS:
            for paper in no_tuples() + any_values() + list(PAIRS.values()):
                if paper != PAIRS[claim] or type(paper) is not tuple:
                    self.check(claim, paper, False)
            if PAIRS[claim] == ():
                for paper in ([], None, (None,), ((),), "", {}, False, 0, claim):
                    self.check(claim, paper, False)

    def test_any_values(self):
        for claim in no_tuples() + any_values() + [(), ((),), ("polite",), ("stricter",), ("rate up to",), WORDS]:
            for paper in SHORT + (TABLE, FAIR, claim):
                self.check(claim, paper, False)

    def test_more_and_less_elements(self):
        for claim, paper in PAIRS.items():
            self.check(claim + ((),), paper, False)
            self.check(claim + claim[-1:], paper, False)
            self.check(list(claim), paper, False)
            self.check(claim[:1] + (claim[1:],), paper, False)
            self.check(claim[1:], paper, False)
            for at in range(len(claim)):
                self.check(claim[:at] + claim[at + 1:], paper, False)

    def test_each_part_changed(self):
        seen = {}
        for claim, paper in PAIRS.items():
            if claim[0] in ("right log", "wrong log"):
                continue
            for value in changes(claim, SHORT + (START, ONE, WORDS[0])):
                right = plain_accepts(value, paper)
                self.check(value, paper, right)
                seen[claim[0], right] = seen.get((claim[0], right), 0) + 1
            for value in changes(paper, SHORT + ((0,), START, ONE)):
                right = plain_accepts(claim, value)
                self.check(claim, value, right)
                seen[claim[0], right] = seen.get((claim[0], right), 0) + 1
        self.assertEqual(len(seen), 16)
        self.assertGreater(min(seen.values()), 2, seen)

    def test_wrong_parts(self):
        for value in no_rules()[::2]:
            for word in ("polite", "not polite"):
                self.check((word, value, ASKS), (), False)
        for value in no_limits():
            for word, paper in (("stricter", ()), ("not stricter", (0, 0)), ("not stricter", (0, 1))):
                self.check((word, value, ((1, 3),)), paper, False)
                self.check((word, ((1, 3),), value), paper, False)
        for value in no_setups()[::2]:
            for claim, paper in PAIRS.items():
                if claim[0][:4] in ("rate", "sum "):
                    self.check(put(claim, 1, value), paper, False)
        for value in no_standings(PRESS):
            self.check(("sum up to", PRESS, value, 0, ONE), (((START, (0, 1)),),), False)
            self.check(("sum from", PRESS, value, 0, (0, 1)), (), False)
        for value in no_fractions()[:-3]:
            if value not in ((-1, 1),):
                for claim, paper in PAIRS.items():
                    if claim[0][:4] in ("rate", "sum "):
                        self.check(claim[:-1] + (value,), paper, False)
        for value in no_tuples() + [(1, 0), (0, None), (-1,), (True,), ((),), (0,) * 201]:
            for word in ("polite", "not polite"):
                self.check((word, ((), (1,)), value), (), False)
        for n in (-1, 13, True, False, None, "2", (2,), 10 ** 50):
            self.check(("sum from", PRESS, START, n, (0, 1)), ((),) * (n if n == 13 else 1), False)
            self.check(("sum up to", PRESS, START, n, (99, 1)), STAGED[:2], False)

    def test_worlds_tasks_and_logs(self):
        for value, _ in no_worlds()[::3]:
            for word in ("right log", "wrong log"):
                self.check((word, value, ("ann", (), 1, 0, ()), ()), (), False)
        for value in no_tuples() + any_values() + [TASK[:4], TASK + ((),), put(TASK, 2, 0), put(TASK, 4, ((0, 1),))]:
            for word in ("right log", "wrong log"):
                self.check((word, WORLD, value, ()), (), False)
        for value in no_tuples():
            for word in ("right log", "wrong log"):
                self.check((word, WORLD, TASK, value), (), False)
        for value in any_values() + [Echo()]:
            self.check(("right log", WORLD, TASK, (value,)), (), False)
            self.check(("wrong log", WORLD, TASK, (value,)), (), True)
            self.check(("wrong log", WORLD, TASK, LOG + (value,)), (), True)
        source = random.Random(130)
        seen = {True: 0, False: 0}
        for _ in range(150):
            world = some_world(source)
            task = some_task(source, world)
            log = some_log(source, world, task, 12)
            moment = log[-1][0] if log else task[4][-1][0] if task[4] else 0
            row = some_row(source, world, task, log, moment)
            right = plainlogs.reason(world, task, log, row) is None
            self.check(("right log", world, task, log), (), True)
            self.check(("wrong log", world, task, log), (), False)
            self.check(("right log", world, task, log + (row,)), (), right)
            self.check(("wrong log", world, task, log + (row,)), (), not right)
            self.check(("right log", world, task, log), log, log == ())
            seen[right] += 1
        self.assertGreater(min(seen.values()), 20)

    def test_how_many_are_reached(self):
        for number, right in (((32, 3), True), ((31, 3), False), ((33, 3), False), ((11, 1), True)):
            self.check(("rate up to", JUST, number), told_table(JUST), right)
        self.check(("rate from", JUST, (32, 3)), ring_of(JUST), True)
        self.check(("rate from", JUST, (33, 3)), ring_of(JUST), False)
        self.check(("rate up to", JUST, most(JUST)), flat(JUST, most(JUST)), True)
        for setup in (OVER, VAST):
            still = ((), ((),) * plain.period(setup))
            self.check(("rate from", setup, (0, 1)), still, False)
            here = plain.begun(setup)
            # Of sums there is no such bound.
            self.check(("sum from", setup, here, 3, (0, 1)), ((),) * 3, True)
            self.check(("sum up to", setup, here, 2, (99, 1)), staged(setup, here, 2), True)
        self.check(("rate up to", OVER, most(OVER)), flat(OVER, most(OVER)), False)
        self.check(("rate from", JUST, (0, 1)), ((), ((),) * 6), True)

    def test_long_rings_and_rows(self):
        self.check(("rate from", PRESS, (11, 4)), (TURN * 150, TURN * 150), True)
        for many, right in ((200, True), (201, False)):
            self.check(("polite", ((), (1,)), (5,) * many), (), right)
            self.check(("not stricter", (), ((1, 1),)), (5,) * many, right)


class TestExcluding(unittest.TestCase):
    """Of two claims that exclude one another never both are taken."""

    def test_asks_and_limits(self):
        source = random.Random(131)
        seen = {}
        for _ in range(500):
            rules = (some_limits(source, 3, 6, 2), some_hours(source, 3))
            asks = tuple(sorted(source.randint(0, 9) for _ in range(source.randint(0, 5))))
            right = slow_polite(rules, asks)
            self.assertIs(accepts(("polite", rules, asks), ()), right)
            self.assertIs(accepts(("not polite", rules, asks), ()), not right)
            one, two = some_limits(source, 3, 5, 2), some_limits(source, 3, 5, 2)
            row = loose(one, two)
            self.assertIs(accepts(("stricter", one, two), ()), row is None)
            self.assertIs(accepts(("not stricter", one, two), ()), False)
            self.assertIs(accepts(("not stricter", one, two), row or (0,)), row is not None)
            for other in (asks, (row or (0,))[:-1], (row or (0,)) + (99,)):
                told = accepts(("not stricter", one, two), other)
                self.assertIs(told, slow_polite((one, (1,)), other) and not slow_polite((two, (1,)), other))
                self.assertFalse(told and row is None)
            seen[right, row is None] = True
        self.assertEqual(len(seen), 4)

    def test_rates(self):
        source = random.Random(132)
        seen = {"rate up to": 0, "rate from": 0}
        for setup in [PRESS] + [some_setup(source, 25) for _ in range(25)]:
            rate, pairs = told_table(setup)
            tables = [(rate, pairs), flat(setup, plain.pair(max(plain.worth(setup, one) for one in plain.walk(setup))))]
            tables += [(plain.pair(plain.number(rate) + more), pairs) for more in (Fraction(-1, 9), Fraction(1, 9))]
            rings = [ring_of(setup)] + [some_ring(source, setup) for _ in range(5)]
            numbers = [plain.number(rate) + Fraction(more, 10) for more in range(-12, 13, 3)]
            for number in numbers:
                claims = {word: (word, setup, plain.pair(number)) for word in seen}
                up = [accepts(claims["rate up to"], paper) for paper in tables + rings]
                down = [accepts(claims["rate from"], paper) for paper in rings + tables]
                self.assertEqual(any(up), plain.number(rate) <= number)
                self.assertEqual(any(down), plain.number(rate) >= number)
                for paper, told in zip(rings, down):
                    self.assertEqual(told, plain.mean(setup, paper) >= number)
                seen["rate up to"] += any(up)
                seen["rate from"] += any(down)
        self.assertGreater(min(seen.values()), 30)

    def test_sums(self):
        source = random.Random(133)
        for setup in [PRESS] + [some_setup(source, 25) for _ in range(25)]:
            here, n = source.choice(plain.standings(setup)), source.randint(0, 4)
            table = staged(setup, here, n)
            best = plain.number(dict(table[n])[here])
            rows = [some_acts(source, setup, here, n) for _ in range(6)]
            for number in (best - 1, best - Fraction(1, 99), best, best + Fraction(1, 99), best + 1):
                up = accepts(("sum up to", setup, here, n, plain.pair(number)), table)
                self.assertIs(up, best <= number)
                for row in rows:
                    down = accepts(("sum from", setup, here, n, plain.pair(number)), row)
                    self.assertIs(down, plain.sum_of(setup, here, row) >= number)
                    self.assertFalse(up and down and number != best)
                for row in ((), ((),) * (n + 1), ((0, 0),) * n, list(rows[0])):
                    self.assertIs(accepts(("sum from", setup, here, n, plain.pair(number)), row),
                                  row == () and n == 0 and number <= 0)


class TestCertificates(unittest.TestCase):
    def test_pairs_are_accepted(self):
        source = random.Random(134)
        for _ in range(40):
            setup = some_setup(source, 30)
            crawl = some_crawl(source, 10)
            pairs = [certify_polite((some_limits(source), some_hours(source)), (0, 3, 3)),
                     certify_stricter(some_limits(source), some_limits(source)),
                     certify_rate(setup, (source.randint(0, 9), 1)), certify_rate(setup, rate_of(setup)),
                     certify_sum(setup, plain.begun(setup), 3, (source.randint(0, 9), 1)), certify_log(*crawl[:3])]
            for claim, paper in pairs:
                self.assertIs(accepts(claim, paper), True)
                self.assertIs(accepts(claim, paper), True)


if __name__ == "__main__":
    unittest.main()
