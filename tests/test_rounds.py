import random
import unittest
from fractions import Fraction

from gentlerounds import rounds
from gentlerounds.errors import InvalidNumber, InvalidRing, InvalidSetup, InvalidStanding
from gentlerounds.rings import ring_of
from gentlerounds.setups import asks_by, led
from gentlerounds.tables import bound_of, rate_of, told_table
from tests import plainsetups as plain
from tests.helper import any_values, given, no_numbers, no_tuples, refusals
from tests.setupsamples import JUST, OVER, PAIR, PRESS, VAST, no_setups, no_standings, some_acts, some_setup
from tests.test_rings import FAIR, TURN, some_ring

START = plain.begun(PRESS)


class TestByHand(unittest.TestCase):
    def test_waiting(self):
        for ages, counts, waits in (((3, 2), 0, 0), ((2, 2), 0, 1), ((0, 2), 0, 3), ((0, 2), 1, 3), ((3, 2), 1, 1),
                                    ((1, 0), 0, 2), ((3, 0), 1, 2)):
            self.assertEqual(rounds.waiting_of(PRESS, (0, ((counts,),), ages)), waits)
        begun = plain.begun(PAIR)
        for clock, counts, waits in ((0, (0, 0), 0), (1, (0, 0), 5), (5, (0, 0), 1), (5, (1, 0), 7), (5, (0, 1), 1),
                                     (4, (1, 0), 2)):
            self.assertEqual(rounds.waiting_of(PAIR, (clock, (counts, ()), begun[2])), waits)

    def test_plans(self):
        here = (0, ((1,),), (1, 2))
        plan = ((), ()) + TURN * 4
        for many in range(19):
            self.assertEqual(rounds.round_plan(PRESS, FAIR, here, many), plan[:many])
        self.assertEqual(rounds.round_plan(PRESS, FAIR, START, 5), TURN + TURN[:1])
        self.assertEqual(rounds.round_plan(PRESS, ((), ((),)), START, 3), ((), (), ()))
        self.assertEqual(rounds.round_plan(PRESS, (TURN * 3, TURN), START, 6), TURN + TURN[:2])
        self.assertEqual(len(rounds.round_plan(PRESS, FAIR, here, 400)), 400)
        self.assertEqual([rounds.behind_by(PRESS, FAIR, one) for one in (START, here)], [8, 10])
        self.assertEqual(rounds.behind_by(PRESS, ((), ((), ())), here), 4)


class TestAnyPlans(unittest.TestCase):
    def test_waiting(self):
        source = random.Random(102)
        for _ in range(40):
            setup = some_setup(source, 40)
            for one in source.choices(plain.standings(setup), k=5):
                waits = rounds.waiting_of(setup, one)
                for _ in range(waits):
                    self.assertNotEqual(one, plain.begun(setup))
                    one = plain.step(setup, one, ())
                self.assertEqual(one, plain.begun(setup))

    def test_from_any_standing(self):
        source = random.Random(103)
        for _ in range(40):
            setup = some_setup(source, 40)
            found = list(plain.walk(setup))
            for one in (plain.begun(setup), source.choice(found), source.choice(plain.standings(setup))):
                for ring in (ring_of(setup), some_ring(source, setup)):
                    self.check(setup, ring, one)

    def check(self, setup, ring, one):
        waits = rounds.waiting_of(setup, one)
        plan = ((),) * waits + ring[0] + ring[1] * 60
        told = rounds.round_plan(setup, ring, one, 60)
        self.assertEqual(told, plan[:60])
        self.assertIsNotNone(plain.behind_acts(setup, one, told))
        behind = rounds.behind_by(setup, ring, one)
        self.assertEqual(behind, waits + len(ring[0]) + len(ring[1]))
        mean, total = plain.mean(setup, ring), Fraction(0)
        for n, standing in enumerate(led(setup, one, told)[1:], start=1):
            total += plain.worth(setup, standing)
            self.assertGreaterEqual(total, (n - behind) * mean)

    def test_no_row_is_far_ahead(self):
        source = random.Random(104)
        for _ in range(25):
            setup = some_setup(source, 40)
            rate, bound = plain.number(rate_of(setup)), plain.number(bound_of(setup, told_table(setup)))
            ring = ring_of(setup)
            start = plain.begun(setup)
            plan = rounds.round_plan(setup, ring, start, 40)
            behind = rounds.behind_by(setup, ring, start)
            for _ in range(10):
                row = some_acts(source, setup, start, 40, 0)
                ahead = plain.sum_of(setup, start, row) - plain.sum_of(setup, start, plan)
                self.assertLessEqual(ahead, bound + behind * rate)

    def test_cut_and_gone_on_with(self):
        source = random.Random(105)
        for _ in range(25):
            setup = some_setup(source, 40)
            row, here = (), plain.begun(setup)
            for _ in range(5):
                plan = rounds.round_plan(setup, some_ring(source, setup), here, 30)[:source.randint(0, 30)]
                row += plan
                here = led(setup, here, plan)[-1]
            self.assertIs(plain.polite(setup, row), True)
            self.assertEqual(asks_by(setup, row), plain.asks(setup, row))
            self.assertEqual(here, plain.standing_behind(setup, row))


class TestErrors(unittest.TestCase):
    def test_errors(self):
        wrong = {"setup": given(InvalidSetup, no_setups()[::3]),
                 "ring": given(InvalidRing, no_tuples() + any_values() + [((), TURN), FAIR[0], (TURN, ())]),
                 "standing": given(InvalidStanding, no_standings(PRESS)),
                 "many": given(InvalidNumber, no_numbers(0, 400))}
        good = [("setup", PRESS), ("ring", FAIR), ("standing", (0, ((1,),), (1, 2))), ("many", 7)]
        refusals(self, rounds.waiting_of, [good[0], good[2]], wrong)
        refusals(self, rounds.behind_by, good[:3], wrong)
        refusals(self, rounds.round_plan, good, wrong)
        for many in (0, 400):
            self.assertEqual(len(rounds.round_plan(PRESS, FAIR, START, many)), many)

    def test_however_many_are_reached(self):
        for setup in (JUST, OVER, VAST):
            still = ((), ((),) * plain.period(setup))
            here = plain.begun(setup)
            self.assertEqual(rounds.waiting_of(setup, here), 0)
            self.assertEqual(rounds.round_plan(setup, still, here, 9), ((),) * 9)
            self.assertEqual(rounds.behind_by(setup, still, here), plain.period(setup))


if __name__ == "__main__":
    unittest.main()
