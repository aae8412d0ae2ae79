import random
import unittest

from gentlerounds import logjudge
from gentlerounds.errors import InvalidTask, InvalidWorld
from gentlerounds.limits import is_polite
from tests import plain
from tests.helper import any_values, no_numbers, no_tuples, refusals
from tests.samples import (LAST, indexed_wrong, no_addresses, no_worlds, put, some_address, some_answer, some_crawl,
                           some_log, some_row, some_task, some_world)
from tests.test_logs import no_rows
from tests.test_tasks import NO_NAMES, no_pasts

A, B, C, NO, FAR = ("mill", "/a"), ("mill", "/b"), ("barn", "/c"), ("barn", "/no"), ("far", "/f")
FILE = ((("*",), (("bar", "/no"),), ((1, 3),), (1, 1, 1, 1, 1, 0)),)
WORLD = (("mill", (), 0, (3, 9), (("/a", ((0, ("page", 7, (B, C, NO))), (5, ("page", 8, (FAR,))))),
                                  ("/b", ((2, ("moved", C)),)))),
         ("barn", FILE, 2, (), (("/c", ((0, ("same", A)),)),)))
TASK = ("ann", (A, NO, A), 2, 1, ())
ASK, LOST, CUT, GONE, PAGE = ("ask",), ("lost",), ("cut",), ("gone",), ("page", 7, (B, C, NO))
# At 1 two are asked for, at 2 B is heard of, at 4 barn's outcome is due.
LOG = ((0, A, ASK), (1, A, PAGE), (1, B, ASK), (1, C, ASK), (2, B, GONE), (4, C, ("same", A)))


class TestReasons(unittest.TestCase):
    def told(self, log, row, reason, task=TASK, world=WORLD):
        """Check the reason of a row behind a right log, whatever stands behind it."""
        self.assertIsNone(logjudge.first_wrong_row(world, task, log))
        self.assertIs(logjudge.is_right(world, task, log), True)
        answer = None if reason is None else (len(log), reason)
        self.assertEqual(logjudge.first_wrong_row(world, task, log + (row,)), answer, (log, row))
        self.assertIs(logjudge.is_right(world, task, log + (row,)), reason is None)
        if reason:
            for rest in ((None,), (row,), log, ((0,),)):
                self.assertEqual(logjudge.first_wrong_row(world, task, log + (row,) + rest), answer)
                self.assertIs(logjudge.is_right(world, task, log + (row,) + rest), False)

    def test_the_log_is_right(self):
        for many in range(len(LOG) + 1):
            self.assertIsNone(logjudge.first_wrong_row(WORLD, TASK, LOG[:many]))

    def test_form(self):
        for value in no_rows():
            self.told(LOG[:2], value, "form")
        for value in any_values():
            self.told((), value, "form")
        for value in no_tuples():
            self.assertEqual(logjudge.first_wrong_row(WORLD, TASK, value), (None, "form"))
            self.assertIs(logjudge.is_right(WORLD, TASK, value), False)

    def test_back(self):
        self.told(LOG[:2], (0, A, ASK), "back")
        self.told(LOG[:2], (0, A, CUT), "back")
        self.told(LOG[:4], (0, C, CUT), "back")
        self.told(LOG[:5], (1, C, CUT), "back")
        self.told(LOG[:5], (2, C, CUT), None)
        past = put(TASK, 4, ((2, "far"), (5, "mill")))
        self.told((), (4, A, ASK), "back", past)
        self.told((), (0, NO, GONE), "back", past)
        self.told((), (5, A, ASK), None, past)
        self.told(((7, A, ASK),), (6, A, CUT), "back", past)
        self.told((), (0, A, ASK), None)

    def test_overdue(self):
        self.told(LOG[:1], (2, A, PAGE), "overdue")
        self.told(LOG[:1], (2, B, ASK), "overdue")
        self.told(LOG[:1], (LAST, A, GONE), "overdue")
        self.told(LOG[:1], (2, A, CUT), None)
        self.told(LOG[:1], (LAST, A, CUT), None)
        self.told(LOG[:1], (1, A, PAGE), None)
        self.told(LOG[:4], (3, B, GONE), "overdue")
        self.told(LOG[:4], (3, C, CUT), None)
        self.told(LOG[:5], (4, C, ("same", A)), None)
        self.told(LOG[:5], (5, C, ("same", A)), "overdue")
        self.told(LOG[:5], (3, NO, ASK), "barred")
        self.told(LOG[:5], (5, NO, ASK), "overdue")

    def test_amid(self):
        cut = LOG[:4] + ((1, C, CUT),)
        self.told(cut, (1, B, CUT), None)
        self.told(cut, (9, B, CUT), None)
        self.told(cut, (2, B, GONE), "amid")
        self.told(cut, (1, C, ASK), "amid")
        self.told(cut, (1, FAR, ASK), "amid")
        self.told(cut, (3, B, GONE), "overdue")
        self.told(cut, (1, C, CUT), "unasked")
        self.told(cut, (0, B, GONE), "back")
        self.told(cut + ((1, B, CUT),), (2, B, ASK), None)
        self.told(cut + ((1, B, CUT),), (2, B, GONE), "unasked")
        self.told(cut + ((5, B, CUT), (6, B, ASK)), (7, B, ("moved", C)), None)

    def test_asks(self):
        self.told((), (0, B, ASK), "unmet")
        self.told((), (0, FAR, ASK), "unmet")
        self.told(LOG[:1], (0, B, ASK), "unmet")
        self.told(LOG[:2], (1, FAR, ASK), "unmet")
        self.told((), (0, NO, ASK), "barred")
        self.told(LOG[:1], (0, A, ASK), "away")
        self.told(LOG[:4], (1, C, ASK), "away")
        self.told(LOG[:2], (1, A, ASK), "answered")
        self.told(LOG, (8, B, ASK), "answered")
        self.told(((0, A, ASK), (1, A, CUT), (1, A, ASK)), (1, A, ASK), "away")
        # An address that is answered and one that the world does not tell may be met, too.
        self.told(LOG[:5] + ((4, C, ("same", A)),), (4, A, ASK), "answered")

    def test_given_up(self):
        lost = ((3, A, ASK), (4, A, LOST))
        self.told(lost, (4, A, ASK), "given up", put(TASK, 3, 0))
        self.told(lost, (4, A, ASK), None)
        twice = lost + ((9, A, ASK), (10, A, LOST))
        self.told(twice, (10, A, ASK), "given up")
        self.told(twice, (10, A, ASK), None, put(TASK, 3, 2))
        cut = lost + ((5, A, ASK), (5, A, CUT), (6, A, ASK), (6, A, CUT))
        self.told(cut, (9, A, ASK), None)
        self.told(cut, (9, A, LOST), "unasked")
        self.told(cut + ((9, A, ASK), (10, A, LOST)), (10, A, ASK), "given up")
        self.told(lost, (3, A, ASK), "back", put(TASK, 3, 0))

    def test_many(self):
        met = ((0, A, ASK), (1, A, ("page", 7, (B, C, NO))))
        task = put(TASK, 2, 1)
        self.told(met + ((1, B, ASK),), (1, C, ASK), "many", task)
        self.told(met + ((1, B, ASK),), (1, NO, ASK), "barred", task)
        self.told(met + ((1, B, ASK),), (2, C, ASK), None, task)
        self.told(LOG[:4], (1, A, ASK), "answered")
        both = ("ann", (A, B, C, ("far", "/1"), ("far", "/2")), 2, 0, ())
        self.told(((0, A, ASK), (0, B, ASK)), (0, ("far", "/1"), ASK), "many", both)
        self.told(((0, A, ASK), (0, B, ASK), (0, A, CUT), (0, B, CUT)), (0, ("far", "/1"), ASK), "many", both)
        self.told(((0, A, ASK),), (0, ("far", "/1"), ASK), None, both)
        past = put(both, 4, ((4, "far"), (4, "inn")))
        self.told((), (4, A, ASK), "many", past)
        self.told((), (5, A, ASK), None, past)
        self.told(((5, A, ASK), (5, B, ASK)), (5, ("far", "/1"), ASK), "many", past)
        past = put(both, 4, ((3, "far"), (3, "far"), (4, "inn")))
        self.told((), (4, A, ASK), None, past)
        self.told(((4, A, ASK),), (4, B, ASK), "many", past)
        self.told((), (9, A, ASK), "many", put(both, 4, ((9, "far"),) * 9))
        self.told((), (9, A, ASK), "many", put(put(both, 2, 9), 4, ((9, "far"),) * 9))
        self.told((), (9, A, ASK), None, put(put(both, 2, 9), 4, ((9, "far"),) * 8))

    def test_impolite(self):
        seeds = ("ann", (C, ("barn", "/d"), ("barn", "/e")), 2, 0, ())
        asked = ((0, C, ASK),)
        self.told(asked, (0, ("barn", "/d"), ASK), "impolite", seeds)
        self.told(asked, (2, ("barn", "/d"), ASK), "impolite", seeds)
        self.told(asked, (3, ("barn", "/d"), ASK), None, seeds)
        self.told((), (5, C, ASK), "impolite", seeds)
        self.told((), (11, C, ASK), "impolite", seeds)
        self.told((), (6, C, ASK), None, seeds)
        self.told(asked + ((0, C, CUT),), (1, C, ASK), "impolite", seeds)
        self.told(asked + ((0, C, CUT),), (3, C, ASK), None, seeds)
        for moment, reason in ((4, "impolite"), (6, None)):
            self.told((), (moment, C, ASK), reason, put(seeds, 4, ((3, "barn"),)))
        self.told((), (4, C, ASK), None, put(seeds, 4, ((1, "barn"), (4, "mill"))))
        self.told((), (3, C, ASK), "impolite", put(seeds, 4, ((1, "barn"), (3, "mill"))))
        self.told((), (3, C, ASK), "many", put(put(seeds, 2, 1), 4, ((1, "barn"), (3, "mill"))))
        # A crawler of another name has another group.
        self.told(((0, C, ASK),), (0, ("barn", "/d"), ASK), None, seeds,
                  (put(WORLD[1], 1, ((("bob",),) + FILE[0][1:],)),))

    def test_outcomes(self):
        self.told((), (0, A, GONE), "unasked")
        self.told((), (0, A, CUT), "unasked")
        self.told(LOG[:2], (1, A, PAGE), "unasked")
        self.told(LOG[:2], (1, A, LOST), "unasked")
        self.told(LOG[:1], (1, B, GONE), "unasked")
        self.told(LOG[:1], (0, A, PAGE), "early")
        self.told(LOG[:1], (0, A, GONE), "early")
        self.told(LOG[:4], (1, C, ("same", A)), "early")
        self.told(LOG[:5], (3, C, LOST), "early")
        for event in (GONE, LOST, ("page", 8, (B, C, NO)), ("page", 7, (C, B, NO)), ("page", 7, (B, C)), ("moved", A),
                      ("same", A),
                      ("page", 8, (FAR,))):
            self.told(LOG[:1], (1, A, event), "untrue")
        for event in (("moved", A), ("same", B), GONE, LOST):
            self.told(LOG[:5], (4, C, event), "untrue")
        self.told(((3, A, ASK),), (4, A, PAGE), "untrue")
        self.told(((3, A, ASK),), (4, A, LOST), None)
        # What counts is what was there when the ask was made.
        self.told(((4, A, ASK),), (5, A, PAGE), None)
        self.told(((4, A, ASK),), (5, A, ("page", 8, (FAR,))), "untrue")
        self.told(LOG[:4], (2, B, ("moved", C)), "untrue")
        self.told(((0, A, ASK),), (0, A, CUT), None)

    def test_late_moments(self):
        seeds = ("ann", (A, C), 1, 0, ())
        self.told((), (LAST, A, ASK), None, seeds)
        self.told(((LAST, A, ASK),), (LAST, A, ("page", 8, (FAR,))), "early", seeds)
        self.told(((LAST, A, ASK),), (LAST, A, CUT), None, seeds)
        self.told(((LAST - 1, A, ASK),), (LAST, A, ("page", 8, (FAR,))), None, seeds)
        self.told(((LAST - 1, A, ASK),), (LAST + 1, A, CUT), "form", seeds)


class TestAgainstThePlainWalk(unittest.TestCase):
    def rows_next(self, source, world, task, log):
        moment = log[-1][0] if log else task[4][-1][0] if task[4] else 0
        for _ in range(12):
            yield some_row(source, world, task, log, max(0, moment + source.choice((-1, 0, 0, 1, 3))))
        asks = plain.open_asks(log)
        for asked, where in asks:
            due, what = plain.outcome(world, where, asked)
            for at in range(max(0, due - 2), due + 2):
                yield at, where, what
                yield at, where, source.choice((("gone",), ("lost",), ("cut",), some_answer(source)))
        for where in set(plain.met(task, log)) | {some_address(source)}:
            yield moment + source.choice((0, 0, 1, 2)), where, ("ask",)
            yield moment, where, source.choice((("gone",), ("cut",)))

    def test_rows_behind_right_logs(self):
        source = random.Random(42)
        seen = {}
        for _ in range(900):
            world = some_world(source)
            task = some_task(source, world)
            log = some_log(source, world, task, source.choice((0, 5, 40)))
            self.assertIsNone(logjudge.first_wrong_row(world, task, log))
            for row in self.rows_next(source, world, task, log):
                reason = plain.reason(world, task, log, row)
                seen[reason] = seen.get(reason, 0) + 1
                answer = None if reason is None else (len(log), reason)
                self.assertEqual(logjudge.first_wrong_row(world, task, log + (row,)), answer, (log, row))
        reasons = {None, "back", "overdue", "amid", "unmet", "barred", "away", "answered", "given up", "many",
                   "impolite",
                   "unasked", "early", "untrue"}
        self.assertEqual(set(seen), reasons)
        self.assertGreater(min(seen.values()), 15, seen)

    def test_logs_next_to_right_ones(self):
        source = random.Random(43)
        for _ in range(80):
            world = some_world(source)
            task = some_task(source, world)
            log = some_log(source, world, task, 30)
            for at in range(len(log)):
                moment, where, event = log[at]
                for other in (log[:at] + log[at + 1:], log[:at + 1] + log[at:],
                              log[:at] + log[at:at + 2][::-1] + log[at + 2:],
                              put(log, at, (moment + 1, where, event)),
                              put(log, at, (moment, some_address(source), event)),
                              put(log, at, (moment, where, source.choice((("cut",), ("ask",), ("gone",), ("lost",))))),
                              put(log, at, None)):
                    self.assertEqual(logjudge.first_wrong_row(world, task, other), self.slow(world, task, other))

    def slow(self, world, task, rows):
        for index, row in enumerate(rows):
            reason = "form" if row is None else plain.reason(world, task, rows[:index], row)
            if reason is not None:
                return index, reason
        return None

    def test_right_logs_as_a_whole(self):
        source = random.Random(44)
        for _ in range(150):
            world = some_world(source)
            task = some_task(source, world)
            log = some_log(source, world, task, 40)
            for many in range(len(log) + 1):
                self.assertIs(logjudge.is_right(world, task, log[:many]), True)
            asked = [where for _, where, event in log if event == ("ask",)]
            for where in set(asked):
                self.assertIn(where, plain.met(task, log))
                self.assertTrue(plain.let(world, task[0], where))
                self.assertLessEqual(asked.count(where), 1 + plain.count(log, where, ("lost", "cut")))
                asks = plain.asks_of(task, log, where[0])
                self.assertIs(is_polite(plain.group(world, task[0], where[0])[1], asks), True)


class TestCrawls(unittest.TestCase):
    def test_moments(self):
        source = random.Random(45)
        seen = {True: 0, False: 0}
        for _ in range(200):
            world = some_world(source)
            task = some_task(source, world)
            log = some_log(source, world, task, source.choice((0, 3, 20)))
            last = log[-1][0] if log else task[4][-1][0] if task[4] else 0
            asks = plain.open_asks(log)
            dues = [plain.outcome(world, where, asked)[0] for asked, where in asks]
            for moment in range(max(last - 2, 0), last + 8):
                right = moment >= last and all(due >= moment for due in dues) and not (asks and log[-1][2] == ("cut",))
                self.assertIs(logjudge.is_crawl((world, task, log, moment)), right)
                seen[right] += 1
        self.assertGreater(min(seen.values()), 200)

    def test_by_hand(self):
        for log, low, high in (((), 0, LAST), (LOG[:1], 0, 1), (LOG[:2], 1, LAST), (LOG[:4], 1, 2), (LOG[:5], 2, 4),
                               (LOG, 4, LAST), (LOG[:1] + ((5, A, CUT),), 5, LAST)):
            for moment in (-1, 0, 1, 2, 3, 4, 5, 6, 70, LAST, LAST + 1):
                self.assertIs(logjudge.is_crawl((WORLD, TASK, log, moment)), low <= moment <= high, (log, moment))
        past = put(TASK, 4, ((3, "far"),))
        self.assertEqual([logjudge.is_crawl((WORLD, past, (), moment)) for moment in (2, 3, 4)], [False, True, True])
        # One of two open asks is cut, then both.
        cut = LOG[:4] + ((1, B, CUT),)
        self.assertEqual([logjudge.is_crawl((WORLD, TASK, cut, moment)) for moment in (1, 2)], [False, False])
        self.assertIs(logjudge.is_crawl((WORLD, TASK, cut + ((1, C, CUT),), 1)), True)

    def test_any_crawls(self):
        source = random.Random(46)
        for _ in range(150):
            crawl = some_crawl(source)
            self.assertIs(logjudge.is_crawl(crawl), True)
            for value in (crawl[:3], crawl + ((),), list(crawl), put(crawl, 2, list(crawl[2])), put(crawl, 2, None)):
                self.assertIs(logjudge.is_crawl(value), False)

    def test_wrong_ones(self):
        crawl = (WORLD, TASK, LOG, 5)
        self.assertIs(logjudge.is_crawl(crawl), True)
        for value in no_tuples() + any_values() + [(), (WORLD,), WORLD, ((), (), (), ())]:
            self.assertIs(logjudge.is_crawl(value), False)
        for value in no_tuples() + [value for value, _ in no_worlds()[::5]]:
            self.assertIs(logjudge.is_crawl(put(crawl, 0, value)), False)
        for value in no_tuples() + any_values() + no_tasks():
            self.assertIs(logjudge.is_crawl(put(crawl, 1, value)), False)
        for value in no_tuples() + any_values() + [LOG[1:], LOG[:1] * 2, LOG + (None,), LOG[0]]:
            self.assertIs(logjudge.is_crawl(put(crawl, 2, value)), False)
        for value in no_numbers(4, LAST):
            self.assertIs(logjudge.is_crawl(put(crawl, 3, value)), False)


def no_tasks():
    """Values that are no tasks in the world."""
    return [value for value, _ in wrong_tasks()]


def wrong_tasks():
    """Rows (TASK, INDEX): values that are no tasks, and what InvalidTask tells of them."""
    rows = [(value, None) for value in [(), TASK[:4], TASK + ((),), (None,) * 6, (TASK,)]]
    for index, values in ((0, any_values() + NO_NAMES), (1, [None, [A], (A,) * 9] + [(bad,) for bad in no_addresses()]),
                          (2, no_numbers(1, 9)), (3, no_numbers(0, 3)),
                          (4, [None, []] + [value for value, _ in no_pasts() if "slow" not in str(value)])):
        rows += [(put(TASK, index, value), index) for value in values]
        # What is wrong further on is not told.
        rows += [(TASK[:index] + (value,) + (None,) * (4 - index), index) for value in values[:3]]
    return rows + [(put(TASK, 4, ((0, "barn"), (2, "barn"))), 4), (put(TASK, 4, ((5, "barn"),)), 4)]


class TestErrors(unittest.TestCase):
    def test_errors(self):
        wrong = {"world": indexed_wrong(InvalidWorld, no_worlds()[::3]),
                 "task": indexed_wrong(InvalidTask, wrong_tasks())}
        for call in (logjudge.first_wrong_row, logjudge.is_right):
            refusals(self, call, [("world", WORLD), ("task", TASK), ("value", LOG)], wrong)
            for value in (None, [], LOG[1:]):
                with self.assertRaises(InvalidTask):
                    call(WORLD, TASK[:4], value)
        for value in no_tuples():
            with self.assertRaises(InvalidTask) as caught:
                logjudge.is_right(WORLD, value, LOG)
            self.assertIsNone(caught.exception.index)


if __name__ == "__main__":
    unittest.main()
