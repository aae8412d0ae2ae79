"""The whole program together: worlds, crawls, cuts, judges, the checker, the console and round plans."""

import random
import unittest
from fractions import Fraction

from gentlerounds.certificates import certify_log, certify_polite, certify_rate, certify_sum
from gentlerounds.checker import accepts
from gentlerounds.console import fresh_console, said
from gentlerounds.copies import copies_of, joined_copies
from gentlerounds.crawls import crawl_of, crawled, next_sweep, rested, rests
from gentlerounds.filetexts import print_file, read_file
from gentlerounds.frontier import house_asks, met, waiting
from gentlerounds.journals import again, cut, journal_of, print_journal, read_journal
from gentlerounds.logjudge import first_wrong_row, is_crawl
from gentlerounds.logs import log_text, read_log
from gentlerounds.monitors import counts_at
from gentlerounds.rings import ring_of
from gentlerounds.rounds import round_plan, waiting_of
from gentlerounds.setups import acts_at, asks_by, begun, is_setup, is_standing, led, period_of, step
from gentlerounds.stages import best_row, best_sum
from gentlerounds.tables import bound_of, rate_of, reached, takes_table, told_table
from gentlerounds.tasks import rules_at
from gentlerounds.worldtexts import print_world, read_world
from tests import plain as plainlogs
from tests import plainsetups as plain
from tests.helper import slow_polite, some_hours, some_limits
from tests.samples import some_answer
from tests.setupsamples import some_acts

NAMES = ("mill", "barn", "inn")
PATHS = ("/", "/a", "/b", "/no")


def near_world(source):
    """A world of which the houses may be those of a set-up."""
    houses = []
    for name in NAMES[:source.randint(1, 3)]:
        file = ((("*",), source.choice(((), (("bar", "/no"),))), some_limits(source, 3, source.choice((2, 3, 5)), 2),
                 some_hours(source, 3)),)
        pages = tuple((path, ((source.choice((0, 5)), some_answer(source)),)) for path in PATHS)
        lost = tuple(sorted(source.sample(range(30), source.choice((0, 9)))))
        houses.append((name, file, source.randint(0, 3), lost, pages))
    return tuple(houses)


def cut_and_taken_up(source, crawl):
    """A crawl cut anywhere, also amid a line, and taken up again."""
    lines = journal_of(crawl).split("\n")[:-1]
    rows = source.randint(0, len(lines))
    torn = source.randint(0, len(lines[rows])) if rows < len(lines) else 0
    text = cut(crawl, rows, torn)
    log = read_journal(text)
    past = crawl[1][4]
    last = max([row[0] for row in log] + [moment for moment, _ in past] + [0])
    return again(crawl, text, last + source.choice((0, 0, 2, 7)))


class TestWhole(unittest.TestCase):
    def test_from_the_text_of_a_world_to_a_round_plan(self):
        source = random.Random(160)
        for _ in range(60):
            world = read_world(print_world(near_world(source)))
            seeds = tuple((source.choice(NAMES), source.choice(PATHS)) for _ in range(source.randint(1, 8)))
            most = source.randint(1, 3)
            crawl = crawl_of(world, "ann", seeds, most=most, times=source.randint(0, 2))
            for _ in range(source.randint(0, 3)):
                crawl = crawled(crawl, source.randint(0, 20)) if source.random() < 0.5 else rested(crawl)
                crawl = cut_and_taken_up(source, crawl)
            crawl = rested(crawl)
            self.check_crawl(crawl)
            self.check_plans(source, crawl, most)

    def check_crawl(self, crawl):
        world, task, log, moment = crawl
        self.assertIs(is_crawl(crawl), True)
        self.assertIs(rests(crawl), True)
        self.assertIsNone(first_wrong_row(world, task, log))
        claim, paper = certify_log(world, task, log)
        self.assertEqual((claim[0], accepts(claim, paper)), ("right log", True))
        self.assertIs(accepts(("wrong log",) + claim[1:], paper), False)
        self.assertEqual(read_log(log_text(log)), log)
        self.assertEqual(read_journal(print_journal(log)), log)
        for name in NAMES:
            asks = house_asks(crawl, name)
            rules = rules_at(world, "ann", name)
            self.assertIs(slow_polite(rules, asks), True)
            claim, paper = certify_polite(rules, asks)
            self.assertEqual((claim[0], accepts(claim, paper)), ("polite", True))
        sweep = next_sweep(crawl)
        further = rested(sweep)
        self.assertIs(is_crawl(further), True)
        both = joined_copies(copies_of(crawl), copies_of(further))
        self.assertLessEqual({one for one, _, _ in copies_of(further)}, {one for one, _, _ in both})
        for name in NAMES:
            asks = house_asks(crawl, name) + house_asks((world, sweep[1][:4] + ((),), further[2], further[3]), name)
            self.assertIs(slow_polite(rules_at(world, "ann", name), asks), True)
        self.assertGreaterEqual(further[3], moment)

    def check_plans(self, source, crawl, most):
        """Go on with a round plan from where the asks of the crawl lead; count all asks in all windows."""
        world, _, _, moment = crawl
        names = [house[0] for house in world]
        houses = tuple(rules_at(world, "ann", name) for name in names)
        pages = tuple((source.randrange(len(houses)), ((2, 1), (1, source.choice((1, 2)))))
                      for _ in range(source.randint(1, 3)))
        setup = (houses, pages, most)
        self.assertIs(is_setup(setup), True)
        if plain.walk(setup, most=400) is None:
            return
        counts = tuple(counts_at(rules, house_asks(crawl, name), moment) for rules, name in zip(houses, names))
        ages = tuple(source.randint(0, len(worths)) for _, worths in pages)
        here = (moment % period_of(setup), counts, ages)
        self.assertIs(is_standing(setup, here), True)
        self.assertIs(led(setup, here, ((),) * waiting_of(setup, here))[-1] == begun(setup), True)
        rows, standing = (), here
        for _ in range(3):
            # A plan that is cut and gone on with by a new one stays polite.
            plan = round_plan(setup, ring_of(setup), standing, 25)[:source.randint(0, 25)]
            rows += plan
            standing = led(setup, standing, plan)[-1]
        for at, name in enumerate(names):
            more = tuple(moment + late for late, act in enumerate(rows) for page in act if pages[page][0] == at)
            self.assertIs(slow_polite(houses[at], house_asks(crawl, name) + more), True)
        self.check_rates(source, setup)

    def check_rates(self, source, setup):
        table = told_table(setup)
        self.assertIs(takes_table(setup, table), True)
        rate, bound = plain.number(table[0]), plain.number(bound_of(setup, table))
        for _ in range(5):
            row = some_acts(source, setup, begun(setup), 30, source.choice((0, 0.3)))
            for rules, asks in zip(setup[0], asks_by(setup, row)):
                self.assertIs(slow_polite(rules, asks), True)
            self.assertLessEqual(plain.sum_of(setup, begun(setup), row), 30 * rate + bound)
        for n in (1, 6, 12):
            self.assertLessEqual(plain.number(best_sum(setup, begun(setup), n)), n * rate + bound)
            row = best_row(setup, begun(setup), n)
            self.assertEqual(plain.pair(plain.sum_of(setup, begun(setup), row)), best_sum(setup, begun(setup), n))
        for number in (table[0], plain.pair(rate - Fraction(1, 10 ** 6)), plain.pair(rate + Fraction(1, 10 ** 6))):
            for claim, paper in (certify_rate(setup, number), certify_sum(setup, begun(setup), 4, number)):
                self.assertIs(accepts(claim, paper), True)
        self.assertEqual(table[0], rate_of(setup))

    def test_the_console_tells_the_same(self):
        source = random.Random(161)
        for _ in range(40):
            world = near_world(source)
            seeds = tuple((source.choice(NAMES), source.choice(PATHS)) for _ in range(source.randint(0, 8)))
            most, times = source.randint(1, 9), source.randint(0, 3)
            crawl = crawl_of(world, "ann", seeds, most=most, times=times)
            words = ["".join(seed) for seed in seeds]
            console, answer = said(fresh_console(), "world " + print_world(world)[:-1].replace("\n", " ; "))
            self.assertEqual(answer, f"{len(world)} houses")
            console, _ = said(console, " ".join(["crawl", "ann", str(most), str(times)] + words))
            for _ in range(4):
                many = source.randint(0, 25)
                console, _ = said(console, f"go {many}")
                crawl = crawled(crawl, many)
                self.assertEqual(console[0][1], crawl)
                rows = source.randint(0, len(crawl[2]))
                if source.random() < 0.7:
                    text = cut(crawl, rows, 0)
                    crawl = again(crawl, text, crawl[3])
                    console, _ = said(console, f"cut {rows} 0")
                    self.assertEqual(said(console, "journal")[1], text or "nothing")
                    console, _ = said(console, f"again {crawl[3]}")
                self.assertEqual(said(console, "judge"), (console, "right"))
                self.assertEqual(said(console, "log")[1], log_text(crawl[2])[:-1] or "nothing")
                self.assertEqual(said(console, "journal")[1], journal_of(crawl)[:-1] or "nothing")
                self.assertEqual(said(console, "waiting")[1],
                                 "\n".join("".join(one) for one in waiting(crawl)) or "nothing")
            console, answer = said(console, "rest")
            crawl = rested(crawl)
            asks = sum(1 for _, _, event in crawl[2] if event == ("ask",))
            self.assertEqual(answer, f"moment {crawl[3]}, {asks} asks, 0 wait, 0 away, at rest")
            self.assertEqual(console[0], (world, crawl, None, None))
            console, _ = said(console, "sweep")
            self.assertEqual(console[0][1], next_sweep(crawl))

    def test_what_is_met_does_not_hang_on_how_it_is_asked(self):
        source = random.Random(162)
        for _ in range(40):
            world = tuple((name, file, delay, (), tuple((path, ((0, versions[0][1]),)) for path, versions in pages))
                          for name, file, delay, _, pages in near_world(source))
            seeds = tuple((source.choice(NAMES), source.choice(PATHS)) for _ in range(3))
            found = set()
            for most in (1, 2, 9):
                crawl = crawl_of(world, "ann", seeds, most=most, times=source.randint(0, 3),
                                 moment=source.randint(0, 99))
                crawl = cut_and_taken_up(source, rested(crawl))
                found.add(tuple(sorted(met(rested(crawl)))))
            self.assertEqual(len(found), 1)
            # By going along the links of let addresses, again and again.
            near = list(dict.fromkeys(seeds))
            for address in near:
                if plainlogs.let(world, "ann", address):
                    near += [one for one in plainlogs.links(plainlogs.told(world, address, 0)) if one not in near]
            self.assertEqual(found, {tuple(sorted(set(near)))})

    def test_the_main_theorem_at_one_setup(self):
        # Two houses, three pages: each row of acts of a few moments, the best one, and the ring.
        setup = (((((1, 2),), (1, 1, 0)), (((2, 3),), (1,))), ((0, ((3, 1), (1, 1))), (1, ((2, 1),)), (1, ((1, 2),))),
                 2)
        table = told_table(setup)
        rate, bound = plain.number(table[0]), plain.number(bound_of(setup, table))
        self.assertEqual(rate, plain.rate(setup))
        for n in range(6):
            for row, total, _ in plain.rows(setup, begun(setup), n):
                self.assertLessEqual(total, n * rate + bound)
                self.assertIs(plain.polite(setup, row), True)
        ring = ring_of(setup)
        self.assertEqual(plain.mean(setup, ring), rate)
        plan = round_plan(setup, ring, begun(setup), 400)
        self.assertIs(plain.polite(setup, plan), True)
        self.assertGreaterEqual(plain.sum_of(setup, begun(setup), plan) + (len(ring[0]) + len(ring[1])) * rate,
                                400 * rate)
        for standing in reached(setup):
            for act in acts_at(setup, standing):
                self.assertIn(step(setup, standing, act), reached(setup))

    def test_files_that_are_read_and_printed(self):
        source = random.Random(163)
        for _ in range(40):
            for _, file, _, _, _ in near_world(source):
                self.assertEqual(read_file(print_file(file)), file)
                self.assertEqual(print_file(read_file(print_file(file))), print_file(file))


if __name__ == "__main__":
    unittest.main()
