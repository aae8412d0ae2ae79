import random
import unittest

from gentlerounds import crawls
from gentlerounds.errors import InvalidMoment, InvalidName, InvalidNumber, InvalidPast, InvalidSeeds, InvalidWorld
from gentlerounds.errors import NotNow
from gentlerounds.frontier import asks_left, barred, met, stands
from gentlerounds.limits import is_polite
from gentlerounds.logjudge import is_crawl, is_right
from tests import plain
from tests.helper import any_values, given, no_numbers, no_tuples, refusals
from tests.samples import (HOUSE, LAST, MILL, indexed_wrong, no_addresses, no_worlds, put, some_address, some_crawl,
                           some_past,
                           some_task, some_world)
from tests.test_tasks import NO_NAMES, WORLD, good_pasts, no_pasts

ASK, LOST, GONE, CUT = ("ask",), ("lost",), ("gone",), ("cut",)
BEGIN = 99999999999
FREE, SHUT = ((), (1,)), ((), (1, 0, 0))


def house(name, rules=FREE, delay=0, lost=(), **pages):
    """A house with the same rules for all; its pages are told by the letters of their paths."""
    rows = tuple(("/" + path, ((0, answer),)) for path, answer in pages.items())
    return name, ((("*",), ()) + rules,), delay, lost, rows


def page(*links):
    return "page", len(links), tuple(plain.address(link) for link in links)


def begun(world, *seeds, **more):
    return crawls.crawl_of(world, "ann", tuple(plain.address(seed) for seed in seeds), **more)


def lines(rows):
    """The rows as short texts, for tests by hand."""
    return [f"{moment} {event[0]} {name}{path}" for moment, (name, path), event in rows]


class TestBegin(unittest.TestCase):
    def test_defaults(self):
        self.assertEqual(crawls.crawl_of((HOUSE,), "ann", (MILL,)), ((HOUSE,), ("ann", (MILL,), 1, 0, ()), (), 0))
        self.assertEqual(crawls.crawl_of((), "a", (), most=9, times=3, past=((4, "far"),), moment=7),
                         ((), ("a", (), 9, 3, ((4, "far"),)), (), 7))
        self.assertRaises(TypeError, crawls.crawl_of, (), "a", (), 1)

    def test_right_ones_are_crawls(self):
        for past in good_pasts():
            last = past[-1][0] if past else 0
            if last <= BEGIN:
                for moment in (last, last + 1, BEGIN):
                    crawl = crawls.crawl_of(WORLD, "ann", (MILL,) * 8, past=past, moment=moment)
                    self.assertEqual(crawl, (WORLD, ("ann", (MILL,) * 8, 1, 0, past), (), moment))
                    self.assertIs(is_crawl(crawl), True)

    def test_errors(self):
        past = ((0, "slow"), (3, "slow"), (3, "far"))
        good = [("world", WORLD), ("crawler", "ann"), ("seeds", (MILL,)), ("most", 9), ("times", 3), ("past", past),
                ("moment", 3)]
        seeds = [((MILL,) * 9, None), ((MILL, MILL, None, 1), 2)] + [((bad,), 0) for bad in no_addresses()]
        wrong = {"world": indexed_wrong(InvalidWorld, no_worlds()[::10]),
                 "crawler": given(InvalidName, any_values() + NO_NAMES),
                 "seeds": indexed_wrong(InvalidSeeds, seeds), "most": given(InvalidNumber, no_numbers(1, 9)),
                 "times": given(InvalidNumber, no_numbers(0, 3)), "past": indexed_wrong(InvalidPast, no_pasts()),
                 "moment": given(InvalidMoment, no_numbers(0, BEGIN) + [0, 1, 2, LAST, 10 ** 11])}
        refusals(self, crawls.crawl_of, good, wrong, ("most", "times", "past", "moment"))
        for value in no_tuples():
            for name, kind in (("seeds", InvalidSeeds), ("past", InvalidPast)):
                with self.assertRaises(kind) as caught:
                    crawls.crawl_of(**{**dict(good), name: value})
                self.assertIsNone(caught.exception.index)

    def test_moments(self):
        for moment, right in ((0, True), (BEGIN, True), (BEGIN + 1, False), (LAST, False), (-1, False)):
            if right:
                self.assertEqual(crawls.crawl_of((), "a", (), moment=moment)[3], moment)
            else:
                self.assertRaises(InvalidMoment, crawls.crawl_of, (), "a", (), moment=moment)
        for last, moment, right in ((5, 4, False), (5, 5, True), (BEGIN, BEGIN, True), (BEGIN, BEGIN - 1, False),
                                    (BEGIN + 1, BEGIN, False), (LAST, BEGIN, False)):
            past = ((1, "far"), (last, "far"))
            if right:
                self.assertEqual(crawls.crawl_of((), "a", (), past=past, moment=moment)[1][4], past)
            else:
                with self.assertRaises(InvalidMoment) as caught:
                    crawls.crawl_of((), "a", (), past=past, moment=moment)
                self.assertEqual(caught.exception.given, moment)
        self.assertRaises(InvalidMoment, crawls.crawl_of, (), "a", (), past=((5, "far"),))


class TestByHand(unittest.TestCase):
    def test_two_houses(self):
        world = (house("mill", a=page("mill/b", "barn/x", "mill/c"), b=GONE, c=page()),
                 house("barn", (((1, 4),), (1,)), 2, x=page("barn/y", "mill/a"), y=("moved", ("far", "/z"))))
        crawl = crawls.rested(begun(world, "mill/a", most=2))
        self.assertEqual(lines(crawl[2]), ["0 ask mill/a", "1 page mill/a", "1 ask mill/b", "1 ask barn/x",
                                           "2 gone mill/b", "2 ask mill/c", "3 page mill/c", "4 page barn/x",
                                           "5 ask barn/y", "8 moved barn/y", "8 ask far/z", "9 gone far/z"])
        self.assertEqual(crawl[3], 10)
        # With one ask at each moment the order is that in which they came to wait.
        crawl = crawls.rested(begun(world, "mill/a"))
        self.assertEqual(lines(crawl[2]), ["0 ask mill/a", "1 page mill/a", "1 ask mill/b", "2 gone mill/b",
                                           "2 ask barn/x", "3 ask mill/c", "4 page mill/c", "5 page barn/x",
                                           "6 ask barn/y", "9 moved barn/y", "9 ask far/z", "10 gone far/z"])

    def test_outcomes_in_the_order_of_their_asks(self):
        world = (house("mill", delay=2, a=page("mill/c")), house("barn", delay=1, x=page("barn/y")),
                 house("inn", q=page("inn/r")))
        crawl = begun(world, "mill/a", "barn/x", "inn/q")
        self.assertEqual(lines(crawls.rested(crawl)[2])[:10],
                         ["0 ask mill/a", "1 ask barn/x", "2 ask inn/q", "3 page mill/a", "3 page barn/x",
                          "3 page inn/q", "3 ask mill/c", "4 ask barn/y", "5 ask inn/r", "6 gone mill/c"])

    def test_the_lost_wait_at_the_end(self):
        world = (house("mill", lost=(0, 1, 3), a=page("mill/c"), b=GONE),)
        crawl = crawls.rested(begun(world, "mill/a", "mill/b", times=1))
        self.assertEqual(lines(crawl[2]), ["0 ask mill/a", "1 lost mill/a", "1 ask mill/b", "2 lost mill/b",
                                           "2 ask mill/a", "3 page mill/a", "3 ask mill/b", "4 lost mill/b",
                                           "4 ask mill/c", "5 gone mill/c"])
        self.assertEqual([stands(crawl, ("mill", path)) for path in ("/a", "/b", "/c")],
                         ["answered", "given up", "answered"])
        self.assertEqual(lines(crawls.rested(begun(world, "mill/a", "mill/b"))[2]),
                         ["0 ask mill/a", "1 lost mill/a", "1 ask mill/b", "2 lost mill/b"])

    def test_what_may_not_be_asked_is_skipped(self):
        world = (house("barn", (((2, 3),), (1, 1, 0))),)
        crawl = begun(world, "barn/a", "barn/b", "barn/c", "far/d", "barn/e", "far/f", most=9)
        self.assertEqual(lines(crawls.step_rows(crawl)), ["0 ask barn/a", "0 ask barn/b", "0 ask far/d", "0 ask far/f"])
        self.assertEqual(lines(crawls.step_rows(put(crawl, 3, 2))), ["2 ask far/d", "2 ask far/f"])
        self.assertEqual(lines(crawls.step_rows(put(crawl, 1, put(crawl[1], 2, 3)))),
                         ["0 ask barn/a", "0 ask barn/b", "0 ask far/d"])

    def test_earlier_asks_count(self):
        world = (house("barn", (((1, 5),), (1,))),)
        crawl = begun(world, "barn/a", "far/b", past=((3, "barn"), (4, "far")), moment=4)
        self.assertEqual(crawls.step_rows(crawl), ())
        self.assertEqual(lines(crawls.crawled(crawl, 5)[2]), ["5 ask far/b", "6 gone far/b", "8 ask barn/a"])
        self.assertEqual(crawls.next_stir(crawl), 5)
        self.assertEqual(crawls.next_stir(begun(world, "barn/a", past=((3, "barn"), (4, "far")), moment=4)), 8)
        self.assertEqual(crawls.next_stir(begun(world, "far/a", past=((3, "barn"), (4, "far")), most=2, moment=4)), 4)

    def test_no_seeds_or_barred_ones(self):
        shut = (("mill", ((("ann",), (("bar", "/"),), (), (1,)),), 0, (), ()),)
        for crawl in (begun(()), begun(shut, "mill/a", "mill/b")):
            self.assertIs(crawls.rests(crawl), True)
            self.assertEqual(crawls.rested(crawl), crawl)
            self.assertIsNone(crawls.next_stir(crawl))
            self.assertEqual(crawls.stepped(crawl), put(crawl, 3, 1))
            self.assertEqual(crawls.crawled(crawl, 400), put(crawl, 3, 400))
            self.assertEqual(crawls.next_sweep(crawl), crawl)

    def test_long_waiting(self):
        # Twelve moments behind the ask at 10 the house is shut, and it opens 22 behind it.
        world = (house("mill", (((1, 12),), (0,) * 10 + (1,)), 3, (21,), a=page()),)
        crawl = begun(world, "mill/a", "mill/b", times=3, past=((10, "mill"),), moment=11)
        self.assertEqual(crawls.next_stir(crawl), 32)
        self.assertEqual(lines(crawls.rested(crawl)[2]),
                         ["32 ask mill/a", "36 page mill/a", "54 ask mill/b", "58 gone mill/b"])
        late = begun(world, "mill/a", moment=BEGIN - 3)
        stir = crawls.next_stir(late)
        self.assertEqual((stir % 11, 0 <= stir - (BEGIN - 3) < 11), (10, True))
        self.assertEqual(crawls.rested(late)[3], stir + 5)

    def test_asks_at_most_23_moments_apart(self):
        for wide in range(1, 13):
            for many in range(1, 13):
                world = (house("mill", (((1, wide),), (0,) * (many - 1) + (1,))),)
                done = crawls.rested(begun(world, *[f"mill/{at}" for at in range(8)]))
                asks = [row[0] for row in done[2] if row[2] == ASK]
                self.assertEqual(asks, [many - 1 + at * -(-wide // many) * many for at in range(8)])
                self.assertTrue(all(two - one <= 23 for one, two in zip(asks, asks[1:])))

    def test_most(self):
        for most in range(1, 10):
            crawl = begun((), *[f"far/{at}" for at in range(8)], most=most)
            self.assertEqual(len(crawls.step_rows(crawl)), min(most, 8))
            asks = [row[0] for row in crawls.rested(crawl)[2] if row[2] == ASK]
            self.assertEqual(asks, [at // most for at in range(8)])

    def test_times(self):
        for times in range(4):
            world = (house("mill", lost=tuple(range(20)), a=page("mill/b")),)
            crawl = crawls.rested(begun(world, "mill/a", times=times))
            self.assertEqual([row[2] for row in crawl[2]], [ASK, LOST] * (times + 1))
            self.assertEqual((crawl[3], stands(crawl, ("mill", "/a"))), (times + 2, "given up"))


class TestAgainstThePlainCrawl(unittest.TestCase):
    def check(self, crawl, most):
        """Check the steps of a crawl, up to so many of them."""
        world, task, log, moment = crawl
        stirs = []
        for many in range(most):
            rows = plain.step(world, task, log, moment)
            here = (world, task, log, moment)
            self.assertEqual(crawls.step_rows(here), rows)
            self.assertEqual(crawls.crawled(crawl, many), here)
            self.assertIs(crawls.rests(here), plain.rests(world, task, log))
            if rows and len(stirs) < 50:
                stirs.append(moment)
            log, moment = log + rows, moment + 1
            self.assertEqual(crawls.stepped(here), (world, task, log, moment))
            # Behind the asks of a moment nothing more can be done at it.
            self.assertEqual(plain.step(world, task, log, moment - 1), ())
            self.assertEqual(crawls.step_rows((world, task, log, moment - 1)), ())
        for at in range(crawl[3], crawl[3] + most - 25):
            here = crawls.crawled(crawl, at - crawl[3])
            self.assertEqual(crawls.next_stir(here), next((stir for stir in stirs if stir >= at), None))

    def test_begun_crawls(self):
        source = random.Random(50)
        for _ in range(60):
            world = some_world(source)
            crawler, seeds, most, times, past = some_task(source, world)
            last = past[-1][0] if past else 0
            crawl = crawls.crawl_of(world, crawler, seeds, most=most, times=times, past=past,
                                    moment=last + source.randint(0, 3))
            self.check(crawl, 45)

    def test_logs_that_no_steps_made(self):
        source = random.Random(51)
        for _ in range(60):
            crawl = some_crawl(source)
            self.assertIs(is_crawl(crawl), True)
            self.check(crawl, 35)

    def test_rest(self):
        source = random.Random(52)
        for _ in range(150):
            crawl = some_crawl(source)
            world, task, log, moment = crawl
            done = crawls.rested(crawl)
            bound = moment + 26 * asks_left(crawl) + 4
            while not plain.rests(world, task, log):
                log, moment = log + plain.step(world, task, log, moment), moment + 1
            self.assertEqual(done, (world, task, log, moment))
            self.assertLessEqual(moment - 1, bound)
            self.assertIs(crawls.rests(done), True)
            self.assertIs(is_crawl(done), True)
            self.assertIsNone(crawls.next_stir(done))
            self.assertEqual(crawls.rested(done), done)
            self.assertEqual(crawls.step_rows(done), ())
            for address in met(done):
                place = stands(done, address)
                asked = [where for _, where, event in done[2] if event == ASK]
                self.assertIn(place, ("answered", "given up") if address in asked else ("barred",))
                self.assertEqual(place == "barred", address in barred(done))

    def test_steps_make_crawls(self):
        source = random.Random(53)
        for _ in range(80):
            crawl = some_crawl(source)
            for many in (0, 1, 2, 5, 9, 30):
                self.assertIs(is_crawl(crawls.crawled(crawl, many)), True)
            self.assertEqual(crawls.crawled(crawl, 0), crawl)
            self.assertEqual(crawls.crawled(crawls.crawled(crawl, 7), 11), crawls.crawled(crawl, 18))

    def test_first_asks_in_the_order_in_which_they_were_met(self):
        source = random.Random(54)
        for _ in range(120):
            world = some_world(source)
            crawler, seeds, most, times, past = some_task(source, world)
            crawl = crawls.crawl_of(world, crawler, seeds, most=most, times=times, past=past, moment=20)
            done = crawls.rested(crawl)
            firsts = list(dict.fromkeys(where for _, where, event in done[2] if event == ASK))
            for name in {where[0] for where in firsts}:
                order = [where for where in met(done) if where[0] == name and where not in barred(done)]
                self.assertEqual([where for where in firsts if where[0] == name], order)

    def test_many_steps(self):
        source = random.Random(55)
        for _ in range(40):
            crawl = some_crawl(source)
            far = crawls.crawled(crawl, 400)
            done = crawls.rested(crawl)
            self.assertEqual(far[3], crawl[3] + 400)
            if done[3] <= far[3]:
                self.assertEqual(far, put(done, 3, far[3]))
            self.assertEqual(far, crawls.crawled(crawls.crawled(crawl, 200), 200))
        for value in no_numbers(0, 400):
            self.assertRaises(InvalidNumber, crawls.crawled, crawl, value)

    def test_late_moments(self):
        source = random.Random(56)
        for _ in range(40):
            world = some_world(source)
            crawl = crawls.crawl_of(world, "ann", (some_address(source), some_address(source)), most=2, times=1,
                                    moment=BEGIN)
            self.check(crawl, 30)
            self.assertIs(is_crawl(crawls.rested(crawl)), True)

    def test_answers_do_not_change(self):
        source = random.Random(57)
        for _ in range(20):
            crawl = some_crawl(source)
            kept = eval(repr(crawl))
            for call in (crawls.step_rows, crawls.stepped, crawls.rested, crawls.rests, crawls.next_stir):
                self.assertEqual(call(crawl), call(crawl=kept))
            self.assertEqual(crawls.crawled(crawl, 12), crawls.crawled(crawl=kept, many=12))
            self.assertEqual(crawl, kept)
            self.assertIsInstance(crawls.step_rows(crawl), tuple)
            self.assertIsInstance(crawls.rested(crawl)[2], tuple)

    def test_errors(self):
        crawl = begun((), "far/a")
        refusals(self, crawls.crawled, [("crawl", crawl), ("many", 400)],
                 {"many": given(InvalidNumber, no_numbers(0, 400))})


class TestWhatIsMet(unittest.TestCase):
    def closure(self, world, seeds):
        """The seeds and what the answers at let ones lead to, again and again."""
        found, ahead = set(), list(seeds)
        while ahead:
            address = ahead.pop()
            if address not in found and plain.let(world, "ann", address):
                ahead += plain.links(plain.told(world, address, 0))
            found.add(address)
        return found

    def test_it_does_not_hang_on_manners(self):
        source = random.Random(58)
        sizes = 0
        for _ in range(150):
            world = some_world(source, still=True)
            seeds = tuple(some_address(source) for _ in range(source.randint(1, 3)))
            found = self.closure(world, seeds)
            sizes += len(found) > 5
            for most, times in ((1, 0), (3, 2), (9, 3)):
                for slow in (False, True):
                    limits, hours = (((1, 7),), (0, 1, 0)) if slow else ((), (1,))
                    other = tuple(put(put(one, 2, 3 if slow else 0), 1,
                                      tuple(group[:2] + (limits, hours) for group in one[1]))
                                  for one in world)
                    done = crawls.rested(crawls.crawl_of(other, "ann", seeds, most=most, times=times))
                    self.assertEqual(set(met(done)), found)
            self.assertEqual(set(met(crawls.rested(crawls.crawl_of(world, "ann", seeds)))), found)
        self.assertGreater(sizes, 20)

    def test_a_large_world(self):
        names = ["a", "b", "c", "d", "e", "f"]
        world = tuple(house(name, (((3, 4),), (1, 1, 0)), at % 4, tuple(range(at, 60, 7))[:20],
                            **{f"p{row}": page(*[f"{names[(at * link + row) % 6]}/p{(row * link + at) % 12}"
                                                 for link in range(6)])
                               for row in range(12)}) for at, name in enumerate(names))
        crawl = begun(world, "a/p1", "far/x", most=9, times=3)
        done = crawls.rested(crawl)
        self.assertIs(is_right(world, done[1], done[2]), True)
        self.assertGreater(len(met(done)), 40)
        self.assertLessEqual(done[3], 26 * asks_left(crawl) + 5)
        self.assertEqual(set(met(done)), self.closure(world, done[1][1]))


class TestSweeps(unittest.TestCase):
    def test_by_hand(self):
        world = (house("mill", a=("moved", ("mill", "/b")), b=("moved", ("far", "/c")), d=("same", ("mill", "/e")),
                       r=("moved", ("mill", "/s")), s=("moved", ("mill", "/t")), t=("moved", ("mill", "/s")),
                       u=("moved", ("mill", "/u"))),)
        crawl = begun(world, "mill/a", "far/c", "mill/d", "mill/r", "mill/u", "mill/b", "mill/a", most=9, times=2,
                      moment=5)
        done = crawls.rested(crawl)
        sweep = crawls.next_sweep(done)
        seeds = (("far", "/c"), ("mill", "/d"), ("mill", "/r"), ("mill", "/u"))
        self.assertEqual(sweep[1][:4], ("ann", seeds, 9, 2))
        self.assertEqual((sweep[0], sweep[2], sweep[3]), (world, (), done[3]))
        self.assertEqual(sweep[1][4], tuple((row[0], row[1][0]) for row in done[2] if row[2] == ASK))
        self.assertIs(is_crawl(sweep), True)

    def test_a_seed_that_leads_round_is_left_as_it_is(self):
        world = (house("mill", a=("moved", ("mill", "/b")), b=("moved", ("mill", "/a")), c=("moved", ("mill", "/a")),
                       d=("moved", ("mill", "/e"))),)
        done = crawls.rested(begun(world, "mill/c", "mill/b", "mill/a", "mill/d"))
        self.assertEqual(crawls.next_sweep(done)[1][1],
                         (("mill", "/c"), ("mill", "/b"), ("mill", "/a"), ("mill", "/e")))

    def test_moved_answers_of_the_log_alone_lead_on(self):
        world = (("mill", ((("*",), (("bar", "/b"),), (), (1,)),), 0, (0,),
                  (("/a", ((0, ("moved", ("mill", "/b"))),)), ("/b", ((0, ("moved", ("mill", "/c"))),)),
                   ("/d", ((0, ("moved", ("far", "/d"))), (1, ("moved", ("far", "/e"))))))),)
        # The first ask is lost, so that seed is led nowhere; /b is barred; /d was asked for at 2.
        done = crawls.rested(begun(world, "mill/d", "mill/a", "mill/x"))
        self.assertEqual(crawls.next_sweep(done)[1][1], (("mill", "/d"), ("mill", "/b"), ("mill", "/x")))
        done = crawls.rested(begun(world, "mill/x", "mill/a", "mill/d"))
        self.assertEqual(crawls.next_sweep(done)[1][1], (("mill", "/x"), ("mill", "/b"), ("far", "/e")))

    def test_earlier_asks_that_are_kept(self):
        past = ((0, "far"), (1, "inn"), (2, "far"), (2, "inn"), (3, "inn"))
        crawl = begun((), "far/a", "far/b", past=past, moment=4)
        for steps, kept in ((0, 5), (6, 5), (8, 4), (9, 4), (10, 2), (11, 1), (12, 0), (40, 0)):
            done = crawls.crawled(crawls.rested(crawl), steps)
            asks = (past + ((4, "far"), (5, "far")))
            self.assertEqual(done[3], 7 + steps)
            self.assertEqual(crawls.next_sweep(done)[1][4], tuple(ask for ask in asks if ask[0] > done[3] - 12))
            self.assertIs(is_crawl(crawls.next_sweep(done)), True)
        self.assertEqual(crawls.next_sweep(crawls.crawled(crawls.rested(crawl), 10))[1][4], ())
        self.assertEqual(crawls.next_sweep(crawls.crawled(crawls.rested(crawl), 9))[1][4], ((5, "far"),))

    def test_not_at_rest(self):
        source = random.Random(59)
        seen = {True: 0, False: 0}
        for _ in range(120):
            crawl = some_crawl(source)
            rests = plain.rests(*crawl[:3])
            seen[rests] += 1
            if rests:
                self.assertEqual(crawls.next_sweep(crawl)[2:], ((), crawl[3]))
            else:
                with self.assertRaises(NotNow) as caught:
                    crawls.next_sweep(crawl=crawl)
                self.assertEqual(vars(caught.exception), {})
        self.assertGreater(min(seen.values()), 20)

    def test_sweeps_one_behind_the_other(self):
        source = random.Random(60)
        for _ in range(80):
            world = some_world(source)
            seeds = tuple(some_address(source) for _ in range(source.randint(1, 4)))
            past = some_past(source, world)
            crawl = crawls.crawl_of(world, "ann", seeds, most=source.choice((1, 3, 9)), times=1, past=past, moment=12)
            asks = list(past)
            for _ in range(4):
                done = crawls.crawled(crawls.rested(crawl), source.choice((0, 0, 1, 5)))
                asks += [(moment, where[0]) for moment, where, event in done[2] if event == ASK]
                crawl = crawls.next_sweep(done)
                self.assertIs(is_crawl(crawl), True)
                self.assertEqual(crawl[1][4], tuple(ask for ask in asks if ask[0] > done[3] - 12))
                self.assertEqual(crawl[1][1], self.led_on(done))
            for name in {name for _, name in asks}:
                rules = plain.group(world, "ann", name)[1]
                moments = tuple(moment for moment, one in asks if one == name)
                self.assertIs(is_polite(rules, moments[:200]), True)
                self.assertIs(is_polite(rules, moments[-200:]), True)

    def led_on(self, crawl):
        moved = {where: event[1] for _, where, event in crawl[2] if event[0] == "moved"}
        seeds = []
        for seed in crawl[1][1]:
            end = seed
            for _ in range(len(moved) + 1):
                end = moved.get(end, end)
            seeds.append(seed if end in moved else end)
        return tuple(dict.fromkeys(seeds))


if __name__ == "__main__":
    unittest.main()
