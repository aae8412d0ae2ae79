import random
import unittest

from gentlerounds import copies
from gentlerounds.crawls import crawl_of, crawled, rested
from gentlerounds.errors import InvalidAddress, InvalidCopies, InvalidMoment, InvalidWorld
from tests import plain
from tests.helper import Echo, any_values, given, indexed, no_numbers, no_tuples, refusals
from tests.samples import (HOUSE, LAST, LONGEST, MILL, NAMES, PATHS, indexed_wrong, no_addresses, no_moments, no_worlds,
                           some_address, some_crawl, some_world)
from tests.test_logjudge import A, B, C, FAR, LOG, TASK, WORLD

ONE, TWO, THREE = (("barn", "/x"), 8, 1), (("barn", "/y"), 0, 0), (("mill", "/"), 999999, LAST)


def no_copies():
    """Values that are no copies by themselves."""
    rows = [(bad, 1, 1) for bad in no_addresses()] + [(MILL, bad, 1) for bad in no_numbers(0, 999999)]
    rows += [(MILL, 1, bad) for bad in no_moments()]
    return any_values() + rows + [ONE[:2], ONE + (1,), list(ONE), (8, ("barn", "/x"), 1), (MILL, 1, None),
                                  (Echo(), 1, 1)]


def wrong_copies():
    """Rows for `indexed`: values that are no copies, and the index that is told."""
    rows = [((bad,), 0) for bad in no_copies()] + [((ONE, bad, None), 1) for bad in no_copies()]
    return rows + [((TWO, ONE), 1), ((ONE, ONE), 1), ((ONE, (ONE[0], 9, 9)), 1), ((ONE, TWO, THREE, TWO), 3),
                   ((ONE, THREE, (("inn", "/"), 1, 1)), 2), ((ONE, (("barn", "/x"), 7, 0)), 1), (ONE, 0)]


def full_crawl(source):
    """A crawl that met much, when most pages are there; it may be cut short."""
    world = some_world(source)
    crawl = crawl_of(world, "ann", tuple(some_address(source, NAMES) for _ in range(8)), most=9,
                     moment=source.randint(0, 30))
    return rested(crawl) if source.random() < 0.8 else crawled(crawl, source.randint(0, 9))


def leading_crawl(source):
    """A crawl at rest in a world in which most answers lead on."""
    kinds = ("moved", "same", "moved", "same", "page", "gone")
    answers = {kind: (lambda kind=kind: (kind, some_address(source, NAMES))) for kind in kinds}
    answers.update({"page": lambda: ("page", 1, ()), "gone": lambda: ("gone",)})
    world = tuple((name, (), 0, (), tuple((path, ((0, answers[source.choice(kinds)]()),)) for path in PATHS))
                  for name in NAMES[:2])
    return rested(crawl_of(world, "ann", tuple(some_address(source, NAMES) for _ in range(8)), most=9))


def some_copies(source, many=6):
    addresses = sorted({some_address(source) for _ in range(source.randint(0, many))})
    return tuple((address, source.randint(0, 3), source.randint(0, 3)) for address in addresses)


class TestCopies(unittest.TestCase):
    def test_is_copies(self):
        for value in ((), (ONE,), (ONE, TWO, THREE), ((LONGEST, 0, LAST),),
                      tuple((("mill", f"/{at:03d}"), 1, 1) for at in range(900))):
            self.assertIs(copies.is_copies(value), True)
        for value in no_tuples() + [value for value, _ in wrong_copies()]:
            self.assertIs(copies.is_copies(value), False, repr(value)[:300])

    def test_of_crawls(self):
        self.assertEqual(copies.copies_of((WORLD, TASK, LOG, 4)), ((A, 7, 0),))
        source = random.Random(120)
        seen = 0
        for at in range(200):
            crawl = some_crawl(source, 50) if at % 4 == 0 else full_crawl(source)
            told = {}
            for at, (_, address, event) in enumerate(crawl[2]):
                if event[0] == "page":
                    asks = [moment for moment, where, what in crawl[2][:at] if where == address and what == ("ask",)]
                    told[address] = (event[1], asks[-1])
            self.assertEqual(copies.copies_of(crawl), tuple((one, *told[one]) for one in sorted(told)))
            self.assertIs(copies.is_copies(copies.copies_of(crawl)), True)
            # What was there at the moment of the ask is still so then.
            for copy in copies.copies_of(crawl):
                self.assertEqual(copies.still_so(crawl[0], (copy,), copy[2]), (copy,))
            seen += len(told)
        self.assertGreater(seen, 150)

    def test_joined(self):
        source = random.Random(121)
        for _ in range(300):
            rows = [some_copies(source) for _ in range(3)]
            one, two, three = rows
            told = {}
            for address, mark, moment in one + two:
                told[address] = max(told.get(address, (-1, -1)), (moment, mark))
            both = tuple((address, told[address][1], told[address][0]) for address in sorted(told))
            self.assertEqual(copies.joined_copies(one, two), both)
            self.assertIs(copies.is_copies(both), True)
            self.assertEqual(copies.joined_copies(two, one), both)
            self.assertEqual(copies.joined_copies(both, one), both)
            self.assertEqual(copies.joined_copies(both, both), both)
            self.assertEqual(copies.joined_copies(one, ()), one)
            self.assertEqual(copies.joined_copies((), one), one)
            self.assertEqual(copies.joined_copies(both, three), copies.joined_copies(one,
                                                                                     copies.joined_copies(two, three)))

    def test_joined_by_hand(self):
        for mark, moment, wins in ((9, 0, False), (9, 1, True), (7, 1, False), (0, 2, True), (8, 1, True)):
            other = (ONE[0], mark, moment)
            self.assertEqual(copies.joined_copies((ONE,), (other,)), (other,) if wins else (ONE,))
            self.assertEqual(copies.joined_copies((other,), (ONE,)), (other,) if wins else (ONE,))

    def test_still_so(self):
        source = random.Random(122)
        seen = {True: 0, False: 0}
        for _ in range(300):
            world, told, moment = some_world(source), some_copies(source, 9), source.randint(0, 25)
            told = tuple((one, what[1], at) for one, _, at in told
                         for what in [plain.told(world, one, source.randint(0, 25))] if what[0] == "page") or told
            right = tuple(copy for copy in told if plain.told(world, copy[0], moment)[:2] == ("page", copy[1]))
            self.assertEqual(copies.still_so(world, told, moment), right)
            seen[True] += len(right)
            seen[False] += len(told) - len(right)
        self.assertGreater(min(seen.values()), 60)
        world = (("mill", (), 0, (), (("/a", ((3, ("page", 1, ())), (5, ("page", 1, (B,))), (7, ("same", B)))),)),)
        told = ((A, 1, 0),)
        self.assertEqual([len(copies.still_so(world, told, moment)) for moment in range(9)],
                         [0, 0, 0, 1, 1, 1, 1, 0, 0])
        self.assertEqual(copies.still_so(world, ((A, 2, 3),), 3), ())
        self.assertEqual(copies.still_so((), told, LAST), ())


class TestEnds(unittest.TestCase):
    def test_by_hand(self):
        links = tuple(("mill", path) for path in ("/o", "/r", "/t", "/u", "/n", "/k"))
        pages = {"/p": ("page", 1, ()), "/m": ("moved", ("mill", "/p")), "/s": ("same", ("mill", "/m")),
                 "/q": ("page", 1, links), "/g": ("gone",), "/h": ("moved", ("mill", "/g")),
                 "/o": ("moved", ("mill", "/o")), "/r": ("same", ("mill", "/t")), "/t": ("moved", ("mill", "/u")),
                 "/u": ("same", ("mill", "/t")), "/n": ("moved", ("far", "/shut")), "/k": ("same", ("mill", "/n"))}
        world = (("mill", (), 0, (), tuple((path, ((0, answer),)) for path, answer in pages.items())),
                 ("far", ((("ann",), (("bar", "/shut"),), (), (1,)),), 0, (), ()))
        crawl = rested(crawl_of(world, "ann", tuple(("mill", path) for path in list(pages)[:6]), most=9))
        for path, word, end in (("/p", "page", "/p"), ("/m", "page", "/p"), ("/s", "page", "/p"), ("/q", "page", "/q"),
                                ("/g", "gone", "/g"), ("/h", "gone", "/g"), ("/o", "ring", "/o"), ("/t", "ring", "/t"),
                                ("/u", "ring", "/u"), ("/r", "ring", "/t"), ("/zz", "none", "/zz")):
            self.assertEqual(copies.end_of(crawl, ("mill", path)), (word, ("mill", end)))
        for path in ("/n", "/k"):
            self.assertEqual(copies.end_of(crawl, ("mill", path)), ("none", ("far", "/shut")))
        self.assertEqual(copies.alike(crawl), ((("mill", "/p"), (("mill", "/m"), ("mill", "/p"), ("mill", "/s"))),
                                               (("mill", "/q"), (("mill", "/q"),))))
        self.assertEqual(copies.alike((WORLD, TASK, LOG, 4)), ((A, (C, A)),))
        self.assertEqual(copies.alike((WORLD, TASK, (), 4)), ())
        self.assertEqual(copies.end_of((WORLD, TASK, LOG[:1], 1), A), ("none", A))
        self.assertEqual(copies.end_of((WORLD, TASK, LOG, 4), FAR), ("none", FAR))

    def plain_end(self, log, address):
        answers = {where: event for _, where, event in log if event[0] in plain.ANSWERS}
        way = [address]
        while way[-1] in answers and len(answers[way[-1]]) == 2 and way[-1] not in way[:-1]:
            way.append(answers[way[-1]][1])
        if way[-1] in way[:-1]:
            return "ring", way[-1]
        return answers.get(way[-1], ("none",))[0], way[-1]

    def test_any_crawls(self):
        source = random.Random(123)
        seen = {}
        for at in range(300):
            crawl = leading_crawl(source) if at % 2 else full_crawl(source)
            log = crawl[2]
            groups = {}
            for address in [(name, path) for name in NAMES + ("far",) for path in PATHS]:
                word, end = copies.end_of(crawl, address)
                self.assertEqual((word, end), self.plain_end(log, address))
                seen[word, end == address] = seen.get((word, end == address), 0) + 1
                answered = any(where == address and event[0] in plain.ANSWERS for _, where, event in log)
                if word == "page" and answered:
                    groups.setdefault(end, []).append(address)
            self.assertEqual(copies.alike(crawl), tuple((end, tuple(sorted(groups[end]))) for end in sorted(groups)))
        self.assertGreater(min(seen.values()), 8, seen)
        self.assertEqual(len(seen), 8, seen)


class TestErrors(unittest.TestCase):
    def test_errors(self):
        crawl = (WORLD, TASK, LOG, 4)
        refusals(self, copies.copies_of, [("crawl", crawl)], {})
        refusals(self, copies.alike, [("crawl", crawl)], {})
        refusals(self, copies.end_of, [("crawl", crawl), ("address", A)], {"address": given(InvalidAddress,
                                                                                            no_addresses())})
        told = indexed(InvalidCopies, wrong_copies())
        refusals(self, copies.joined_copies, [("copies", (ONE, THREE)), ("others", (TWO,))],
                 {"copies": told, "others": told})
        wrong = {"world": indexed_wrong(InvalidWorld, no_worlds()[::5]), "copies": told,
                 "moment": given(InvalidMoment, no_moments())}
        refusals(self, copies.still_so, [("world", (HOUSE,)), ("copies", ((MILL, 1, 0),)), ("moment", LAST)], wrong)


if __name__ == "__main__":
    unittest.main()
