import random
import unittest

from gentlerounds import rings
from gentlerounds.errors import InvalidRing, InvalidSetup, TooMany
from gentlerounds.tables import rate_of
from tests import plainsetups as plain
from tests.helper import any_values, given, no_tuples, refusals
from tests.setupsamples import (JUST, ONE, OVER, PAIR, PRESS, SHORT, VAST, changes, great_worths, no_setups, some_acts,
                                some_setup)

TURN = ((0,), (), (1,), ())
FAIR = (TURN, TURN)


def some_ring(source, setup):
    """Any ring: acts until a standing comes for the second time."""
    standing = plain.begun(setup)
    row, seen = (), [standing]
    while True:
        act = some_acts(source, setup, standing, 1)[0]
        standing = plain.step(setup, standing, act)
        row += (act,)
        if standing in seen:
            return row[:seen.index(standing)], row[seen.index(standing):]
        seen.append(standing)


class TestRings(unittest.TestCase):
    def check(self, value, right, setup=PRESS):
        self.assertIs(rings.is_ring(setup, value), right, repr(value)[:300])
        if right:
            self.assertEqual(rings.mean_of(setup, value), plain.pair(plain.mean(setup, value)))
        else:
            with self.assertRaises(InvalidRing) as caught:
                rings.mean_of(setup, value)
            self.assertIs(caught.exception.given, value)

    def test_by_hand(self):
        self.check(FAIR, True)
        self.assertEqual(rings.mean_of(PRESS, FAIR), (11, 4))
        self.check(((), ((),)), True)
        self.check(((), ((),) * 500), True)
        self.check((((),) * 500, ((),)), True)
        self.check((TURN * 150, TURN * 2), True)
        self.check(((), TURN), False)
        self.check((TURN, ()), False)
        self.check(((), ()), False)
        self.check((TURN, TURN[:3]), False)
        self.check((TURN, TURN[1:] + TURN[:1]), False)
        self.check((TURN[:1], TURN[1:] + TURN[:1]), True)
        self.check((TURN[:2], TURN[1:] + TURN[:1]), False)
        self.check((TURN + TURN[:1], TURN[1:] + TURN[:1]), True)
        self.check((TURN, ((0,), (0,), (1,), ())), False)
        self.check((((0,), (0,)), TURN), False)
        self.check(((), ((0,), (), (), ())), True)
        self.assertEqual(rings.mean_of(PRESS, ((), ((0,), (), (), ()))), (7, 4))
        self.assertEqual(rings.mean_of(PRESS, (((1,),), ((), (), (), (1,)))), ONE)
        self.check(list(FAIR), False)
        self.check((list(TURN), TURN), False)
        self.check((TURN, list(TURN)), False)
        self.check((TURN, ([0], (), (1,), ())), False)
        self.check((TURN, ((False,), (), (1,), ())), False)
        self.check((TURN, ((0,), (), (True,), ())), False)

    def test_any_values(self):
        for value in no_tuples() + any_values() + [(FAIR,), FAIR + ((),), (TURN,), TURN, ((),), ((), ((None,),))]:
            self.check(value, False)

    def test_any_rings(self):
        source = random.Random(99)
        for setup in [PRESS, PAIR] + [some_setup(source, 60) for _ in range(40)]:
            rate = plain.number(rate_of(setup))
            for _ in range(15):
                ring = some_ring(source, setup)
                self.check(ring, True, setup)
                self.assertLessEqual(plain.mean(setup, ring), rate)

    def test_any_changes(self):
        source = random.Random(100)
        seen = {True: 0, False: 0}
        for setup in [PRESS, PRESS, PAIR] + [some_setup(source, 20) for _ in range(12)]:
            for value in changes(some_ring(source, setup), SHORT + ((0,), (1,), ((),))):
                right = plain.is_ring(setup, value)
                self.check(value, right, setup)
                seen[right] += 1
        self.assertGreater(min(seen.values()), 30, seen)

    def test_rings_of_the_rate(self):
        source = random.Random(101)
        for setup in [PRESS, PAIR, JUST] + [some_setup(source, 60) for _ in range(50)] + [
                some_setup(source, 30, great_worths) for _ in range(10)]:
            ring = rings.ring_of(setup)
            self.check(ring, True, setup)
            self.assertEqual(rings.mean_of(setup, ring), rate_of(setup))

    def test_worths_of_nothing(self):
        setup = (((((1, 2),), (1, 0, 0)),), ((0, ((0, 1), (0, 1))),), 1)
        ring = rings.ring_of(setup)
        self.check(ring, True, setup)
        self.assertEqual(rings.mean_of(setup, ring), (0, 1))


class TestErrors(unittest.TestCase):
    def test_errors(self):
        setup = {"setup": given(InvalidSetup, no_setups()[::3])}
        over = [({"setup": OVER}, TooMany, None), ({"setup": VAST}, TooMany, None)]
        refusals(self, rings.ring_of, [("setup", PAIR)], setup, last=over)
        refusals(self, rings.is_ring, [("setup", PRESS), ("value", FAIR)], setup, last=over)
        wrong = {**setup, "ring": given(InvalidRing, no_tuples() + any_values() + [((), TURN), FAIR[0]])}
        still = ((), ((),) * 12)
        refusals(self, rings.mean_of, [("setup", PRESS), ("ring", FAIR)], wrong,
                 last=[({"setup": OVER, "ring": still}, TooMany, None)])

    def test_too_many(self):
        for value in (None, (), ((), ((),) * 12)):
            self.assertRaises(TooMany, rings.is_ring, OVER, value)
        for value in (None, (), ((), ()), ((), ((),))):
            with self.assertRaises(InvalidRing):
                rings.mean_of(OVER, value)
        self.assertRaises(TooMany, rings.mean_of, OVER, ((), ((),) * 12))


if __name__ == "__main__":
    unittest.main()
