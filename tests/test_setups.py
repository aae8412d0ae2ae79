import random
import unittest

from gentlerounds import setups
from gentlerounds.errors import InvalidAct, InvalidActs, InvalidSetup, InvalidStanding
from gentlerounds.limits import is_polite
from tests import plainsetups as plain
from tests.helper import any_values, given, indexed, no_tuples, refusals
from tests.samples import put
from tests.setupsamples import (EDGE, JUST, ONE, OVER, PAIR, PRESS, SHORT, THREE, TWO, VAST, changes, no_setups,
                                no_standings, some_acts, some_setup)


def no_acts():
    """Values that are no acts that are let at the begun standing of PAIR."""
    return no_tuples() + any_values() + [(0, 1, 2), (1, 0), (0, 0), (-1,), (3,), (0, 3), [0], (True,), (False,),
                                         (0, True), ((0,),), ("0",), (None,), (10 ** 50,), (-1, 0)]


class TestSetups(unittest.TestCase):
    def check(self, value, right):
        self.assertIs(setups.is_setup(value), right, repr(value)[:300])

    def test_right_ones(self):
        for setup in (PRESS, PAIR, EDGE, JUST, OVER, VAST):
            self.check(setup, True)
        house, page = ((), (1,)), (0, (ONE,))
        for many in range(1, 6):
            self.check(((house,) * many, (page,), 1), many <= 3)
            self.check(((house,), (page,) * many, 1), many <= 4)
            self.check(((house,), (page,), many), many <= 3)
            self.check(((house,), ((0, (ONE,) * many),), 1), many <= 4)
            self.check((((((1, 5),) * many, (1,)),), (page,), 1), many <= 4)
            self.check(((((), (1,) * many),), (page,), 1), many <= 4)
            self.check(((((), (0,) * (many - 1) + (1,)),), (page,), 1), many <= 4)
            self.check(((house, house), ((many - 1, (ONE,)),), 1), many <= 2)
        for most in range(-1, 9):
            for wide in range(-1, 14):
                self.check((((((most, wide),), (1,)),), (page,), 1), 1 <= most <= 6 and 1 <= wide <= 5)

    def test_worths(self):
        for worths, right in ((((0, 1),), True), (((1, 10 ** 399),), True), (((10 ** 399, 7),), True),
                              ((TWO, TWO), True), ((TWO, THREE), False), (((5, 2), TWO), True), (((3, 2), TWO), False),
                              (((1, 2), (1, 3), (1, 4), (0, 1)), True), (((1, 2), (1, 3), (1, 3), (2, 5)), False),
                              (((2, 3), (3, 4)), False), (((3, 4), (2, 3)), True), (((-1, 2),), False),
                              (((0, 1), (-1, 2)), False), (((0, 3),), False), (((2, 6),), False),
                              ((ONE, (0, 1)), True)):
            self.check(((((), (1,)),), ((0, worths),), 1), right)

    def test_wrong_ones(self):
        for value in no_setups():
            self.check(value, False)

    def test_any_changes(self):
        seen = {True: 0, False: 0}
        for setup in (PRESS, PAIR, EDGE):
            for value in changes(setup, SHORT + (ONE, (0, (ONE,)), ((), (1,)))):
                right = plain.is_setup(value)
                self.check(value, right)
                seen[right] += 1
        self.assertGreater(min(seen.values()), 100, seen)

    def test_any_ones(self):
        source = random.Random(80)
        for _ in range(60):
            self.check(some_setup(source), True)


class TestStandings(unittest.TestCase):
    def check(self, setup, value, right):
        self.assertIs(setups.is_standing(setup, value), right, repr((setup, value))[:300])

    def test_all_of_small_ones(self):
        source = random.Random(81)
        for setup in [PRESS, PAIR] + [some_setup(source, 30, standings=200) for _ in range(40)]:
            every = plain.standings(setup)
            for one in every:
                self.check(setup, one, True)
            houses, _, most = setup
            for one in every[::7]:
                for at, row in enumerate(one[1]):
                    for place, many in enumerate(row):
                        more = put(row, place, many + 1)
                        self.check(setup, put(one, 1, put(one[1], at, more)),
                                   many < most and plain.fits(houses[at][0], more))
                for at, age in enumerate(one[2]):
                    self.check(setup, put(one, 2, put(one[2], at, age + 1)), age < len(setup[1][at][1]))
                self.check(setup, put(one, 0, one[0] + 1), one[0] + 1 < plain.period(setup))

    def test_counts_above_most_and_closed_moments(self):
        setup = (((((6, 3),), (1, 0)),), ((0, (ONE,)),) * 4, 2)
        for counts, right in (((2, 2), True), ((3, 0), False), ((0, 3), False), ((2, 1), True), ((0, 0), True)):
            for clock in (0, 1):
                self.check(setup, (clock, (counts,), (0,) * 4), right)
        setup = put(setup, 0, ((((3, 3),), (1,)),))
        for counts, right in (((2, 2), False), ((2, 1), True), ((1, 2), True), ((0, 2), True)):
            self.check(setup, (0, (counts,), (0,) * 4), right)

    def test_wrong_ones(self):
        for setup in (PRESS, PAIR, EDGE):
            for value in no_standings(setup):
                self.check(setup, value, False)
            self.check(setup, plain.begun(setup), True)

    def test_any_changes(self):
        for setup in (PRESS, PAIR):
            every = plain.every_standing(setup)
            for one in plain.standings(setup)[::5]:
                for value in changes(one, SHORT):
                    self.check(setup, value, repr(value) in every)


class TestByHand(unittest.TestCase):
    def test_period_and_begun(self):
        for lengths, period in (((1,), 1), ((2,), 2), ((2, 3), 6), ((4, 2), 4), ((4, 3), 12), ((4, 3, 2), 12),
                                ((3, 3, 1), 3)):
            setup = (tuple(((), (1,) * many) for many in lengths), ((0, (ONE,)),), 1)
            self.assertEqual(setups.period_of(setup), period)
        self.assertEqual(setups.begun(PAIR), (0, ((0, 0), ()), (2, 1, 2)))
        self.assertEqual(setups.begun(EDGE), (0, ((0,) * 4, (), (0,) * 3), (4, 1, 4, 1)))
        self.assertEqual([setups.period_of(PAIR), setups.period_of(EDGE)], [6, 4])

    def test_worth(self):
        for ages, worth in (((2, 1, 2), (0, 1)), ((0, 1, 2), (5, 2)), ((1, 0, 2), (25, 12)), ((0, 0, 0), (21, 4)),
                            ((2, 1, 1), (0, 1))):
            self.assertEqual(setups.worth_of(PAIR, (3, ((1, 0), ()), ages)), worth)

    def test_acts(self):
        self.assertEqual(setups.acts_at(PAIR, setups.begun(PAIR)), ((), (0,), (0, 1), (0, 2), (1,), (1, 2), (2,)))
        # The second house is shut at each other moment, the first one at each third, and is full behind two asks.
        for clock, counts, acts in ((1, (0, 0), ((), (0,))), (2, (0, 0), ((), (1,), (1, 2), (2,))), (5, (1, 0), ((),)),
                                    (4, (1, 1), ((), (1,), (1, 2), (2,))), (4, (1, 0), ((), (0,), (0, 1), (0, 2), (1,),
                                                                                       (1, 2), (2,)))):
            self.assertEqual(setups.acts_at(PAIR, (clock, (counts, ()), (0, 0, 0))), acts)
        one = (((((1, 1),), (1,)),), ((0, (ONE,)),) * 3, 3)
        self.assertEqual(setups.acts_at(one, (0, ((),), (0, 0, 0))), ((), (0,), (1,), (2,)))
        free = put(one, 0, (((), (1,)),))
        self.assertEqual(setups.acts_at(free, (0, ((),), (0, 0, 0))),
                         ((), (0,), (0, 1), (0, 1, 2), (0, 2), (1,), (1, 2), (2,)))

    def test_steps(self):
        self.assertEqual(setups.step(PAIR, (5, ((1, 1), ()), (0, 1, 2)), ()), (0, ((0, 1), ()), (1, 1, 2)))
        self.assertEqual(setups.step(PAIR, (4, ((1, 0), ()), (0, 0, 1)), (0, 2)), (5, ((1, 1), ()), (0, 1, 0)))
        self.assertEqual(setups.led(PAIR, setups.begun(PAIR), ()), (setups.begun(PAIR),))
        self.assertEqual(setups.sum_of(PAIR, setups.begun(PAIR), ()), (0, 1))
        self.assertEqual(setups.sum_of(PAIR, setups.begun(PAIR), ((0, 1), ())), (55, 12))
        self.assertEqual(setups.asks_by(PAIR, ()), ((), ()))
        self.assertEqual(setups.asks_by(PAIR, ((0, 1), (0,), (1, 2), (), (0,))), ((0, 1, 4), (0, 2, 2)))
        self.assertEqual(setups.sum_of(PRESS, setups.begun(PRESS), ((),) * 400), (0, 1))


class TestAgainstThePlainWay(unittest.TestCase):
    def test_each_standing(self):
        source = random.Random(82)
        for _ in range(60):
            setup = some_setup(source, 40)
            self.assertEqual(setups.period_of(setup), plain.period(setup))
            self.assertEqual(setups.begun(setup), plain.begun(setup))
            for one in source.sample(plain.standings(setup), 8) if len(plain.standings(setup)) > 8 else []:
                acts = tuple(plain.acts(setup, one))
                self.assertEqual(setups.acts_at(setup, one), acts)
                self.assertEqual(setups.worth_of(setup, one), plain.pair(plain.worth(setup, one)))
                for act in acts:
                    further = plain.step(setup, one, act)
                    self.assertEqual(setups.step(setup, one, act), further)
                    self.assertIs(setups.is_standing(setup, further), True)
                    self.assertEqual(setups.sum_of(setup, one, (act,)), plain.pair(plain.worth(setup, further)))
                    self.assertEqual(setups.led(setup, one, (act,)), (one, further))

    def test_rows(self):
        source = random.Random(83)
        for _ in range(60):
            setup = some_setup(source, 40)
            row = some_acts(source, setup, plain.begun(setup), 14)
            trail = setups.led(setup, setups.begun(setup), row)
            self.assertEqual(trail, tuple(plain.standing_behind(setup, row[:many]) for many in range(15)))
            total = sum([plain.worth(setup, one) for one in trail[1:]])
            self.assertEqual(setups.sum_of(setup, setups.begun(setup), row), plain.pair(total))
            asks = setups.asks_by(setup, row)
            self.assertEqual(asks, plain.asks(setup, row))
            for rules, moments in zip(setup[0], asks):
                self.assertIs(is_polite(rules, moments), True)

    def test_just_the_polite_acts_are_let(self):
        # Any acts are counted in all windows, from moment 0 on, whatever the standings are.
        source = random.Random(84)
        seen = {True: 0, False: 0}
        for _ in range(50):
            setup = some_setup(source, 60)
            row = ()
            for _ in range(9):
                here = plain.standing_behind(setup, row)
                let = setups.acts_at(setup, here)
                for act in plain.acts(put(setup, 0, (((), (1,)),) * 3), (0, ((), (), ()), here[2])):
                    right = plain.polite(setup, row + (act,))
                    self.assertIs(act in let, right)
                    seen[right] += 1
                    if not right:
                        with self.assertRaises(InvalidActs) as caught:
                            setups.asks_by(setup, row + (act, None))
                        self.assertEqual(caught.exception.index, len(row))
                row += (source.choice(let),)
        self.assertGreater(min(seen.values()), 300)


class TestErrors(unittest.TestCase):
    def setUp(self):
        rows = [((bad,), 0) for bad in no_acts()] + [(((), (0,), bad, None), 2) for bad in no_acts()]
        rows += [(((0,), (0,), (0,)), 2), (((), (1,)), 1), (((0,), (0,), (), (1,)), 3), (((),) * 401, None),
                 ((None,) * 401, None), (((),) * 399 + (None,), 399), ((1,), 0)]
        self.wrong = {"setup": given(InvalidSetup, no_setups()[::5]),
                      "standing": given(InvalidStanding, no_standings(PAIR)[::2]),
                      "act": given(InvalidAct, no_acts()), "acts": indexed(InvalidActs, rows)}

    def test_errors(self):
        here = setups.begun(PAIR)
        for call in (setups.period_of, setups.begun):
            refusals(self, call, [("setup", PAIR)], {"setup": given(InvalidSetup, no_setups())})
        refusals(self, setups.is_standing, [("setup", PAIR), ("value", here)], self.wrong)
        for call in (setups.worth_of, setups.acts_at):
            refusals(self, call, [("setup", PAIR), ("standing", here)], self.wrong)
        refusals(self, setups.step, [("setup", PAIR), ("standing", here), ("act", (0, 1))], self.wrong)
        for call in (setups.led, setups.sum_of):
            refusals(self, call, [("setup", PAIR), ("standing", here), ("acts", ((0, 1), (0,)))], self.wrong)
        refusals(self, setups.asks_by, [("setup", PAIR), ("acts", ((0, 1), (0,)))], self.wrong)

    def test_whatever_the_other_arguments_are(self):
        for value in no_setups()[::7]:
            for other in (None, (), [], "", value):
                for call in (setups.is_standing, setups.worth_of, setups.acts_at, setups.asks_by):
                    with self.assertRaises(InvalidSetup) as caught:
                        call(value, other)
                    self.assertIs(caught.exception.given, value)

    def test_acts_that_are_let_elsewhere(self):
        for clock, counts, act in ((1, (0, 0), (1,)), (2, (0, 0), (0,)), (4, (1, 1), (0,)), (0, (0, 0), (0, 1, 2))):
            with self.assertRaises(InvalidAct) as caught:
                setups.step(PAIR, (clock, (counts, ()), (0, 0, 0)), act)
            self.assertEqual(caught.exception.given, act)

    def test_no_bound_to_what_is_reached(self):
        for setup in (OVER, VAST):
            here = setups.begun(setup)
            self.assertEqual(setups.led(setup, here, ((),))[1][2], here[2])
            self.assertEqual(len(setups.acts_at(setup, here)) > 4, True)


if __name__ == "__main__":
    unittest.main()
