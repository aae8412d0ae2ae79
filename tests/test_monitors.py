import random
import unittest
from itertools import product

from gentlerounds import limits, monitors
from gentlerounds.errors import (Barred, CrawlError, InvalidAsks, InvalidCounts, InvalidLimits, InvalidNumber,
                                 InvalidRules, NotPolite)
from gentlerounds.monitors import Monitor
from tests.helper import (any_values, given, indexed, no_asks, no_limits, no_numbers, no_rules, no_tuples, refusals,
                          slow_polite, some_hours, some_limits, tells)

ALWAYS = (1,)
SMALL = [(), ((1, 1),), ((3, 1),), ((2, 3),), ((3, 2), (1, 1)), ((2, 3), (3, 5)), ((3, 5), (2, 3)), ((1, 4), (2, 2)),
         ((2, 2), (2, 2)), ((3, 4), (2, 2), (1, 1)), ((1, 5),), ((2, 4), (3, 4))]


def counted(asks, moment, span):
    """The counts at the moment, counted."""
    return tuple(sum(1 for ask in asks if ask == moment - back) for back in range(1, span + 1))


def span_of(pairs):
    return max((wide for _, wide in pairs), default=1) - 1


def some_asks(source, pair, many):
    """Polite asks, some of them later than need be."""
    asks = ()
    for _ in range(many):
        since = source.choice((0, (asks[-1] if asks else 0) + source.randint(0, 7)))
        asks += limits.soonest(pair, asks, 1, since=since)
    return asks


class TestCounts(unittest.TestCase):
    def test_all_counts_that_can_be_come_to(self):
        for pairs in SMALL:
            span = span_of(pairs)
            come, queue = {(0,) * span}, [((0,) * span, ())]
            while queue:
                counts, told = queue.pop()
                for many in range(5):
                    asks = tuple(at for at, number in enumerate(told + (many,)) for _ in range(number))
                    if pairs and slow_polite((pairs, ALWAYS), asks):
                        further = ((many,) + counts)[:span]
                        if further not in come:
                            come.add(further)
                            queue.append((further, told + (many,)))
            for counts in product(range(5), repeat=span):
                self.assertIs(monitors.are_counts(pairs, counts), counts in come, (pairs, counts))

    def test_no_counts(self):
        pairs = ((2, 3), (3, 5))
        for value in no_tuples() + any_values() + [
                (), (0,), (0,) * 3, (0,) * 5, [0] * 4, (0, 0, 0, -1), (0, 0, 0, True), (False, 0, 0, 0),
                (0, 0, 0, None),
                (0, 0, 0, "0"), (0, 0, 0, (0,)), (0, 0, 0, 10 ** 60), (-1, 1, 0, 0), (3, -1, 0, 0), "0000", b"0000"]:
            self.assertIs(monitors.are_counts(pairs, value), False, repr(value))
            if value != ():
                self.assertIs(monitors.are_counts((), value), False, repr(value))
                self.assertIs(monitors.are_counts(((6, 1),), value), False, repr(value))
        self.assertIs(monitors.are_counts((), ()), True)
        self.assertIs(monitors.are_counts(((6, 1),), ()), True)
        self.assertIs(monitors.are_counts(pairs, (2, 0, 0, 1)), True)

    def test_counts_at(self):
        source = random.Random(13)
        for _ in range(200):
            pair = (some_limits(source), some_hours(source))
            asks = some_asks(source, pair, source.randint(0, 8))
            after = asks[-1] + 1 if asks else 0
            for moment in (after, after + 1, after + 4, after + 12, after + 10 ** 60):
                told = counted(asks, moment, span_of(pair[0]))
                self.assertEqual(monitors.counts_at(pair, asks, moment), told)
                self.assertIs(monitors.are_counts(pair[0], told), True)
        self.assertEqual(monitors.counts_at((((1, 12),), ALWAYS), (), 0), (0,) * 11)
        self.assertEqual(monitors.counts_at(((), ALWAYS), (3,) * 200, 4), ())

    def test_led_through_many_moments(self):
        source = random.Random(14)
        for turn in range(80):
            pair = (SMALL[turn % len(SMALL)] if turn % 2 else some_limits(source), some_hours(source, 5))
            span = span_of(pair[0])
            asks, counts = (), (0,) * span
            for moment in range(30):
                self.assertEqual(counts, counted(asks, moment, span))
                self.check_moment(pair, asks, moment, counts)
                top = monitors.most_now(pair, moment, counts)
                many = source.randint(0, 6 if top is None else top) if source.random() < 0.6 else 0
                counts = monitors.next_counts(pair, moment, counts, many)
                asks += (moment,) * many
                self.assertTrue(slow_polite(pair, asks))

    def check_moment(self, pair, asks, moment, counts):
        """All that is told of a moment, against counting in all windows."""
        right = [many for many in range(8) if slow_polite(pair, asks + (moment,) * many)]
        self.assertEqual(right, list(range(len(right))))
        told = None if len(right) == 8 else right[-1]
        self.assertEqual(monitors.most_now(pair, moment, counts), told)
        for many in range(8):
            self.assertIs(monitors.lets(pair, moment, counts, many), many in right)
            if many not in right:
                tells(self, Barred, None, lambda: monitors.next_counts(pair, moment, counts, many))
        self.assertIs(monitors.lets(pair, moment, counts, 100), told is None)
        waited = 0
        while not slow_polite(pair, asks + (moment + waited,)):
            waited += 1
        self.assertEqual(monitors.wait(pair, moment, counts), waited)

    def test_closed_moments(self):
        pair = (((2, 3),), (0, 1, 0, 0))
        self.assertEqual([monitors.most_now(pair, moment, (0, 0)) for moment in range(5)], [0, 2, 0, 0, 0])
        self.assertIs(monitors.lets(pair, 0, (0, 0), 0), True)
        self.assertIs(monitors.lets(pair, 0, (0, 0), 1), False)
        self.assertEqual(monitors.next_counts(pair, 0, (1, 0), 0), (0, 1))
        self.assertEqual(monitors.wait(pair, 2, (2, 0)), 3)
        self.assertEqual(monitors.most_now(((), (0, 1)), 0, ()), 0)
        self.assertEqual(monitors.next_counts(((), ALWAYS), 5, (), 100), ())
        self.assertEqual(monitors.wait((((1, 12),), (1,) + (0,) * 11), 1, (1,) + (0,) * 10), 11)
        self.assertEqual(monitors.wait((((1, 12),), (1,) + (0,) * 10), 1, (1,) + (0,) * 10), 21)

    def test_errors(self):
        pair, pairs = (((2, 3), (3, 5)), (1, 1, 0)), given(InvalidRules, no_rules())
        counts = given(InvalidCounts, no_tuples() + any_values() + [
            (), (0,), (0,) * 3, (0,) * 5, [0] * 4, (0, 0, 0, -1), (0, 0, 0, True), (2, 1, 0, 0), (0, 0, 0, 3),
            (1, 1, 1, 0)])
        moments, many = given(InvalidNumber, no_numbers(0)), given(InvalidNumber, no_numbers(0, 100))
        refusals(self, monitors.are_counts, [("limits", ((2, 3),)), ("value", (0, 0))],
                 {"limits": given(InvalidLimits, no_limits())})
        refusals(self, monitors.counts_at, [("rules", pair), ("asks", (0, 3)), ("moment", 4)],
                 {"rules": pairs, "asks": indexed(InvalidAsks, no_asks()),
                  "moment": moments + [(3, InvalidNumber, 3), (0, InvalidNumber, 0)]},
                 last=[({"asks": (0, 0, 1, 3)}, NotPolite, 2), ({"asks": (2, 3)}, NotPolite, 0)])
        for moment in no_numbers(0):
            tells(self, InvalidNumber, moment, lambda: monitors.counts_at(pair, (), moment))
        good = [("rules", pair), ("moment", 4), ("counts", (1, 0, 0, 1))]
        wrong = {"rules": pairs, "moment": moments, "counts": counts, "many": many}
        refusals(self, monitors.most_now, good, wrong)
        refusals(self, monitors.wait, good, wrong)
        refusals(self, monitors.lets, good + [("many", 100)], wrong)
        refusals(self, monitors.next_counts, good + [("many", 1)], wrong,
                 last=[({"many": 2}, Barred, None), ({"moment": 5}, Barred, None)])


class TestMonitor(unittest.TestCase):
    def state(self, monitor):
        return monitor.rules, monitor.moment, monitor.counts, monitor.asked, monitor.soonest(5)

    def told(self, pair, start, moment, asks):
        """The state that a monitor has to be in, counted from all asks made."""
        asked = sum(1 for ask in asks if ask == moment)
        further = limits.soonest(pair, tuple(asks)[-150:], 5, since=moment)
        return pair, moment, counted(asks, moment, span_of(pair[0])), asked, further

    def test_against_all_asks(self):
        source = random.Random(15)
        for turn in range(150):
            pair = (SMALL[turn % len(SMALL)] if turn % 3 else some_limits(source), some_hours(source, 5))
            start = source.choice((0, 0, source.randint(1, 30), 10 ** 60))
            monitor = Monitor(pair, moment=start)
            history = [(start, ())]
            for _ in range(25):
                moment, asks = history[-1]
                self.assertEqual(self.state(monitor), self.told(pair, start, moment, asks))
                at, many = moment + source.choice((0, 0, 1, 1, 2, 5, 13, 40)), source.choice((0, 1, 1, 1, 2, 3))
                right = slow_polite(pair, asks + (at,) * many)
                self.assertIs(monitor.lets(at, many), right)
                if many == 1:
                    self.assertIs(monitor.lets(at), right)
                if source.random() < 0.15:
                    self.assertIs(monitor.undo(), len(history) > 1)
                    history = history[:-1] or history
                elif right:
                    self.assertIsNone(monitor.ask(at, many) if many != 1 else monitor.ask(at))
                    history.append((at, asks + (at,) * many))
                else:
                    tells(self, Barred, None, lambda: monitor.ask(at, many))
            while len(history) > 1:
                history.pop()
                self.assertIs(monitor.undo(), True)
                self.assertEqual(self.state(monitor), self.told(pair, start, *history[-1]))
            self.assertIs(monitor.undo(), False)
            self.assertIs(monitor.undo(), False)
            self.assertEqual(self.state(monitor), self.told(pair, start, start, ()))

    def test_begun(self):
        pair = (((2, 3), (3, 5)), (1, 0))
        for monitor, moment in ((Monitor(pair), 0), (Monitor(rules=pair, moment=7), 7)):
            self.assertIs(monitor.rules, pair)
            self.assertEqual((monitor.moment, monitor.counts, monitor.asked), (moment, (0,) * 4, 0))
            self.assertEqual(monitor.soonest(), (moment + moment % 2,))
            self.assertIs(monitor.undo(), False)

    def test_properties_are_read_alone(self):
        monitor = Monitor((((2, 3),), ALWAYS))
        for name in ("rules", "moment", "counts", "asked"):
            self.assertIsInstance(getattr(Monitor, name), property)
            self.assertRaises(AttributeError, setattr, monitor, name, 1)
        for name in ("lets", "ask", "soonest", "undo"):
            self.assertIn(name, vars(Monitor))

    def test_no_asks_more(self):
        monitor = Monitor((((1, 2),), (1, 0, 0)))
        self.assertIsNone(monitor.ask(0))
        self.assertIs(monitor.lets(0, 0), True)
        self.assertIs(monitor.lets(1, 0), True)
        self.assertIsNone(monitor.ask(0, 0))
        self.assertEqual((monitor.moment, monitor.asked, monitor.counts), (0, 1, (0,)))
        self.assertIsNone(monitor.ask(1, 0))
        self.assertEqual((monitor.moment, monitor.asked, monitor.counts), (1, 0, (1,)))
        self.assertIsNone(monitor.ask(moment=10 ** 60, many=0))
        self.assertEqual((monitor.moment, monitor.asked, monitor.counts), (10 ** 60, 0, (0,)))
        self.assertEqual([monitor.undo() for _ in range(5)], [True, True, True, True, False])
        self.assertEqual((monitor.moment, monitor.asked, monitor.counts), (0, 0, (0,)))

    def test_several_asks_at_one_moment(self):
        monitor = Monitor((((5, 4),), ALWAYS))
        monitor.ask(3, 2)
        monitor.ask(3)
        monitor.ask(3, 2)
        self.assertEqual((monitor.asked, monitor.counts), (5, (0, 0, 0)))
        self.assertIs(monitor.lets(6), False)
        self.assertIs(monitor.lets(7, 5), True)
        self.assertIs(monitor.lets(7, 6), False)
        monitor.undo()
        self.assertEqual(monitor.asked, 3)
        self.assertEqual(monitor.soonest(4), (3, 3, 7, 7))
        monitor.ask(4, 2)
        self.assertEqual((monitor.asked, monitor.counts), (2, (3, 0, 0)))

    def test_without_limits(self):
        monitor = Monitor(((), (1, 0)))
        for _ in range(4):
            monitor.ask(2, 100)
        self.assertEqual((monitor.asked, monitor.counts, monitor.soonest(2)), (400, (), (2, 2)))
        self.assertIs(monitor.lets(3, 1), False)
        monitor.ask(3, 0)
        self.assertEqual((monitor.asked, monitor.soonest(2)), (0, (4, 4)))

    def test_errors_leave_it_as_it_was(self):
        monitor = Monitor((((2, 3),), (1, 1, 0)))
        monitor.ask(3)
        monitor.ask(4)
        before = self.state(monitor)
        for args in ((2,), (3,), (-1,), (None,), (True,), ("4",), (4, -1), (4, 101), (4, None), (4, True), (4,), (5,),
                     (5, 1), (6, 3)):
            self.assertRaises(CrawlError, monitor.ask, *args)
            self.assertEqual(self.state(monitor), before)
        self.assertIs(monitor.undo(), True)
        self.assertEqual((monitor.moment, monitor.asked), (3, 1))

    def test_errors(self):
        pair = (((2, 3),), (1, 1, 0))
        pairs, moments = given(InvalidRules, no_rules()), given(InvalidNumber, no_numbers(0))
        refusals(self, lambda *args, **named: Monitor(*args, **named).moment, [("rules", pair), ("moment", 4)],
                 {"rules": pairs, "moment": moments}, ("moment",))
        self.assertRaises(TypeError, Monitor, pair, 4)

        def at_four(method):
            monitor = Monitor(pair, moment=4)
            return lambda *args, **named: getattr(monitor, method)(*args, **named)

        many = given(InvalidNumber, no_numbers(0, 100))
        wrong = {"moment": given(InvalidNumber, no_numbers(4) + [0, 3]), "many": many}
        refusals(self, at_four("lets"), [("moment", 4), ("many", 100)], wrong)
        refusals(self, at_four("ask"), [("moment", 4), ("many", 0)], wrong,
                 last=[({"moment": 5, "many": 1}, Barred, None), ({"many": 3}, Barred, None)])
        refusals(self, at_four("soonest"), [("many", 100)], {"many": many})


if __name__ == "__main__":
    unittest.main()
