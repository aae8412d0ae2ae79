import random
import unittest

from gentlerounds import frontier
from gentlerounds.errors import InvalidAddress, InvalidName
from gentlerounds.logjudge import is_crawl, is_right
from tests import plain
from tests.helper import any_values, given, refusals
from tests.samples import NAMES, PATHS, no_addresses, put, some_address, some_crawl, some_log, some_task, some_world
from tests.test_logjudge import ASK, A, B, C, CUT, FAR, GONE, LOG, LOST, NO, PAGE, TASK, WORLD
from tests.test_tasks import NO_NAMES

EVERY = [(name, path) for name in NAMES + ("far", "inns") for path in PATHS + ("/zz",)]


class TestByHand(unittest.TestCase):
    def test_behind_each_row(self):
        # Of each beginning of the log: met, waiting, away, asks left.
        rows = [((A, NO), (A,), (), 8), ((A, NO), (), ((0, A),), 7), ((A, NO, B, C), (B, C), (), 6),
                ((A, NO, B, C), (C,), ((1, B),), 5), ((A, NO, B, C), (), ((1, B), (1, C)), 4),
                ((A, NO, B, C), (), ((1, C),), 3),
                ((A, NO, B, C), (), (), 2)]
        for many, (met, waiting, away, left) in enumerate(rows):
            crawl = (WORLD, TASK, LOG[:many], 4)
            self.assertEqual(frontier.met(crawl), met)
            self.assertEqual(frontier.barred(crawl), (NO,))
            self.assertEqual(frontier.waiting(crawl), waiting)
            self.assertEqual(frontier.away(crawl), away)
            self.assertEqual(frontier.asks_left(crawl), left)
        for address, words in ((A, "waiting away answered answered answered answered answered"),
                               (B, "unmet unmet waiting away away answered answered"),
                               (C, "unmet unmet waiting waiting away away answered"), (NO, "barred " * 6 + "barred"),
                               (FAR, "unmet " * 6 + "unmet"), (("barn", "/no/x"), "unmet " * 6 + "unmet")):
            self.assertEqual([frontier.stands((WORLD, TASK, LOG[:many], 4), address) for many in range(7)],
                             words.split())

    def test_lost_and_cut(self):
        lost = ((3, A, ASK), (4, A, LOST))
        for log, place, left in ((lost[:1], "away", 7), (lost, "waiting", 7), (lost + ((9, A, ASK),), "away", 6),
                                 (lost + ((9, A, ASK), (10, A, LOST)), "given up", 6),
                                 (lost + ((9, A, ASK), (9, A, CUT)), "waiting", 7),
                                 (lost + ((8, A, ASK), (9, A, ("page", 8, (FAR,)))), "answered", 6)):
            self.assertEqual(frontier.stands((WORLD, TASK, log, 12), A), place)
            self.assertEqual(frontier.asks_left((WORLD, TASK, log, 12)), left)
        self.assertEqual(frontier.stands((WORLD, put(TASK, 3, 0), lost, 12), A), "given up")
        self.assertEqual(frontier.asks_left((WORLD, put(TASK, 3, 0), lost, 12)), 3)

    def test_the_order_of_those_that_wait(self):
        one, two, three = ("far", "/1"), ("far", "/2"), ("far", "/3")
        task = ("ann", (one, A, two, one, three), 9, 2, ())
        for log, order in (((), (one, A, two, three)), (((3, A, ASK), (4, A, LOST)), (one, two, three, A)),
                           (((3, A, ASK), (3, two, ASK), (4, two, GONE), (4, A, LOST)), (one, three, A)),
                           (((3, A, ASK), (3, two, ASK), (3, two, CUT), (3, A, CUT)), (one, three, two, A)),
                           (((0, A, ASK), (0, one, ASK), (1, A, PAGE), (1, one, GONE)), (two, three, B, C)),
                           (((0, A, ASK), (0, one, ASK), (0, one, CUT), (0, A, CUT), (0, A, ASK), (1, A, PAGE)),
                            (two, three, one, B, C)),
                           (((0, A, ASK), (0, one, ASK), (5, A, CUT), (5, one, CUT)), (two, three, A, one))):
            self.assertIs(is_right(WORLD, task, log), True)
            self.assertEqual(frontier.waiting((WORLD, task, log, 4)), order)

    def test_given_up_and_met_again(self):
        world = (("mill", (), 0, (0,), (("/b", ((0, ("page", 1, (A, B, FAR, A))),)),)),)
        task = ("ann", (A, B), 9, 0, ())
        log = ((0, A, ASK), (1, A, LOST), (1, B, ASK), (2, B, ("page", 1, (A, B, FAR, A))))
        self.assertIs(is_right(world, task, log), True)
        crawl = (world, task, log, 2)
        self.assertEqual([frontier.stands(crawl, one) for one in (A, B, FAR)], ["given up", "answered", "waiting"])
        self.assertEqual((frontier.met(crawl), frontier.waiting(crawl)), ((A, B, FAR), (FAR,)))
        self.assertEqual(frontier.asks_left(crawl), 1)

    def test_house_asks(self):
        task = put(TASK, 4, ((0, "barn"), (0, "far"), (0, "mill")))
        log = tuple((moment + 3, address, event) for moment, address, event in LOG[:2])
        self.assertEqual([frontier.house_asks((WORLD, TASK, LOG, 4), house) for house in ("mill", "barn", "far")],
                         [(0, 1), (1,), ()])
        self.assertEqual([frontier.house_asks((WORLD, task, log, 4), house)
                          for house in ("mill", "barn", "far", "inn")],
                         [(0, 3), (0,), (0,), ()])

    def test_a_name_of_a_house_that_is_not_told(self):
        crawl = (WORLD, ("ann", (FAR, ("fa", "/r")), 1, 0, ()), (), 0)
        self.assertEqual(frontier.waiting(crawl), (FAR, ("fa", "/r")))
        self.assertEqual(frontier.barred(crawl), ())
        self.assertEqual(frontier.asks_left(((), crawl[1], (), 0)), 2)


class TestAgainstThePlainWalk(unittest.TestCase):
    def test_any_crawls(self):
        source = random.Random(47)
        seen = {}
        for _ in range(600):
            crawl = some_crawl(source, 40)
            world, task, log, _ = crawl
            self.assertEqual(frontier.met(crawl), tuple(plain.met(task, log)))
            shut = tuple(one for one in plain.met(task, log) if not plain.let(world, "ann", one))
            self.assertEqual(frontier.barred(crawl), shut)
            self.assertEqual(frontier.waiting(crawl), tuple(plain.waiting(world, task, log)))
            self.assertEqual(frontier.away(crawl), tuple(plain.open_asks(log)))
            self.assertEqual(frontier.asks_left(crawl), plain.asks_left(world, task, log))
            for address in EVERY:
                place = plain.stands(world, task, log, address)
                self.assertEqual(frontier.stands(crawl, address), place)
                seen[place] = seen.get(place, 0) + 1
            for name in NAMES + ("far", "inns"):
                self.assertEqual(frontier.house_asks(crawl, name), plain.asks_of(task, log, name))
            self.assertEqual(frontier.waiting(crawl), frontier.waiting(crawl))
        self.assertEqual(len(seen), 6)
        self.assertGreater(min(seen.values()), 15, seen)

    def test_asks_left_row_by_row(self):
        source = random.Random(48)
        seen = {}
        for _ in range(150):
            world = some_world(source)
            task = some_task(source, world)
            log = some_log(source, world, task, 50)
            lefts = [frontier.asks_left((world, task, log[:many], 0)) for many in range(len(log) + 1)]
            for (_, _, event), ahead, behind in zip(log, lefts, lefts[1:]):
                kind = event[0] if event[0] in ("ask", "lost", "cut") else "answer"
                seen[kind] = seen.get(kind, 0) + 1
                if kind == "answer":
                    self.assertLessEqual(behind, ahead)
                else:
                    self.assertEqual(behind - ahead, {"ask": -1, "lost": 0, "cut": 1}[kind])
            self.assertGreaterEqual(min(lefts), 0)
        self.assertGreater(min(seen.values()), 20, seen)

    def test_each_address_stands_somewhere(self):
        source = random.Random(49)
        for _ in range(100):
            crawl = some_crawl(source)
            self.assertIs(is_crawl(crawl), True)
            met, away = frontier.met(crawl), [address for _, address in frontier.away(crawl)]
            for address in [some_address(source) for _ in range(5)] + list(met):
                place = frontier.stands(crawl, address)
                self.assertEqual(place == "unmet", address not in met)
                self.assertEqual(place == "barred", address in frontier.barred(crawl))
                self.assertEqual(place == "waiting", address in frontier.waiting(crawl))
                self.assertEqual(place == "away", address in away)


class TestErrors(unittest.TestCase):
    def test_errors(self):
        wrong = {"address": given(InvalidAddress, no_addresses()), "house": given(InvalidName, any_values() + NO_NAMES)}
        crawl = (WORLD, TASK, LOG, 4)
        refusals(self, frontier.stands, [("crawl", crawl), ("address", A)], wrong)
        refusals(self, frontier.house_asks, [("crawl", crawl), ("house", "mill")], wrong)
        for call in (frontier.met, frontier.barred, frontier.waiting, frontier.away, frontier.asks_left):
            refusals(self, call, [("crawl", crawl)], {})


if __name__ == "__main__":
    unittest.main()
