import random
import unittest

from gentlerounds import worlds
from gentlerounds.errors import InvalidAddress, InvalidMoment, InvalidName, InvalidSeeds, InvalidWorld
from tests import plain
from tests.helper import any_values, given, no_tuples, refusals
from tests.samples import (ANSWERS, BARN, FILE, HOUSE, LAST, LONGEST, MILL, PAGE, indexed_wrong,
                           no_addresses, no_answers, no_houses, no_moments, no_pages, no_worlds, put, some_address,
                           some_world)

WORLD = (HOUSE, ("barn", (), 0, (7,), (("/x", ((2, ("page", 4, ())), (3, ("page", 5, ())), (9, ("page", 5, ())))),)),
         ("inn", (), 1, (), ()))


class TestAnswers(unittest.TestCase):
    def test_right_ones(self):
        for value in ANSWERS:
            self.assertIs(worlds.is_answer(value), True, value)

    def test_wrong_ones(self):
        for value in no_answers():
            self.assertIs(worlds.is_answer(value), False, repr(value))
        for value in no_addresses():
            self.assertIs(worlds.is_answer(("page", 1, (MILL, value))), False, repr(value))
            self.assertIs(worlds.is_answer(("moved", value)), False)
            self.assertIs(worlds.is_answer(("same", value)), False)

    def test_bounds(self):
        for many in range(9):
            self.assertIs(worlds.is_answer(("page", 3, (MILL, BARN, MILL, LONGEST) * 2)[:2] + ((MILL,) * many,)),
                          many <= 6)
        for mark in (-1, 0, 1, 999998, 999999, 1000000, 10 ** 60):
            self.assertIs(worlds.is_answer(("page", mark, ())), 0 <= mark <= 999999)


class TestWorlds(unittest.TestCase):
    def test_right_ones(self):
        most = ("a" * 12, FILE, 3, tuple(range(20)), tuple(("/" + "a" * at, PAGE[1]) for at in range(12)))
        for value in ((), WORLD, (HOUSE,), (most,), (put(HOUSE, 1, ()), put(most, 3, (LAST,))),
                      tuple(put(most, 0, name) for name in "fedcba")):
            self.assertIs(worlds.is_world(value), True)
        for delay in range(4):
            self.assertIs(worlds.is_world((put(HOUSE, 2, delay),)), True)
        for many in range(1, 7):
            page = ("/" + "a" * 39, tuple((at * 3, ("gone",)) for at in range(many)))
            self.assertIs(worlds.is_world((put(HOUSE, 4, (page, ("/" + "a" * 38, page[1]))),)), True)

    def test_wrong_houses(self):
        self.assertGreater(len(no_houses()), 500)
        for value in no_houses():
            self.assertIs(worlds.is_world((value,)), False, repr(value))

    def test_wrong_worlds(self):
        for value in no_tuples() + [value for value, _ in no_worlds()]:
            self.assertIs(worlds.is_world(value), False, repr(value))

    def test_one_more_is_too_much(self):
        self.assertIs(worlds.is_world((put(HOUSE, 3, tuple(range(20))),)), True)
        self.assertIs(worlds.is_world((put(HOUSE, 3, tuple(range(21))),)), False)
        for page in no_pages():
            self.assertIs(worlds.is_world((put(HOUSE, 4, (page,)),)), False, repr(page))


class TestWhatIsThere(unittest.TestCase):
    def test_told_by_hand(self):
        for moment, answer in ((0, ("page", 1, (MILL,))), (4, ("page", 1, (MILL,))), (5, ("moved", BARN)),
                               (6, ("moved", BARN)),
                               (LAST - 1, ("moved", BARN)), (LAST, ("gone",))):
            self.assertEqual(worlds.told_at(WORLD, MILL, moment), answer)
        for address in (("mill", "/c"), ("inn", "/a"), ("far", "/a"), LONGEST):
            for moment in (0, 5, LAST):
                self.assertEqual(worlds.told_at(WORLD, address, moment), ("gone",))
        self.assertEqual([worlds.told_at(WORLD, BARN, moment) for moment in (0, 1, 2)],
                         [("gone",), ("gone",), ("page", 4, ())])

    def test_outcomes_by_hand(self):
        self.assertEqual(worlds.outcome_of(WORLD, MILL, 0), (4, ("lost",)))
        self.assertEqual(worlds.outcome_of(WORLD, MILL, 1), (5, ("page", 1, (MILL,))))
        self.assertEqual(worlds.outcome_of(WORLD, MILL, 3), (7, ("page", 1, (MILL,))))
        self.assertEqual(worlds.outcome_of(WORLD, MILL, 4), (8, ("lost",)))
        self.assertEqual(worlds.outcome_of(WORLD, MILL, 5), (9, ("moved", BARN)))
        self.assertEqual(worlds.outcome_of(WORLD, MILL, LAST), (LAST + 4, ("lost",)))
        self.assertEqual(worlds.outcome_of(WORLD, ("mill", "/z"), 4), (8, ("lost",)))
        self.assertEqual(worlds.outcome_of(WORLD, ("mill", "/z"), 5), (9, ("gone",)))
        self.assertEqual(worlds.outcome_of(WORLD, BARN, 7), (8, ("lost",)))
        self.assertEqual(worlds.outcome_of(WORLD, ("inn", "/"), LAST), (LAST + 2, ("gone",)))
        self.assertEqual(worlds.outcome_of(WORLD, ("far", "/"), LAST), (LAST + 1, ("gone",)))

    def test_changes_by_hand(self):
        for address, moment, change in ((MILL, 0, 5), (MILL, 4, 5), (MILL, 5, LAST), (MILL, LAST - 1, LAST),
                                        (MILL, LAST, None),
                                        (BARN, 0, 2), (BARN, 1, 2), (BARN, 2, 3), (BARN, 3, None), (BARN, 8, None),
                                        (("far", "/"), 0, None), (("mill", "/z"), 0, None), (("mill", "/b"), 0, 3)):
            self.assertEqual(worlds.next_change(WORLD, address, moment), change)
        # What comes back counts as what it is, not as what stood between.
        again = (put(HOUSE, 4, (("/a", ((0, ("gone",)), (2, ("gone",)), (4, ("same", MILL)), (6, ("gone",)))),)),)
        self.assertEqual([worlds.next_change(again, MILL, moment) for moment in range(7)], [4, 4, 4, 4, 6, 6, None])

    def test_any_worlds(self):
        source = random.Random(28)
        for _ in range(150):
            world = some_world(source)
            self.assertIs(worlds.is_world(world), True)
            for _ in range(10):
                address = some_address(source)
                rows = [plain.told(world, address, moment) for moment in range(40)]
                for moment in range(32):
                    self.assertEqual(worlds.told_at(world, address, moment), rows[moment])
                    self.assertEqual(worlds.outcome_of(world, address, moment), plain.outcome(world, address, moment))
                    change = next((at for at in range(moment, 40) if rows[at] != rows[moment]), None)
                    self.assertEqual(worlds.next_change(world, address, moment), change)

    def test_houses(self):
        for house in WORLD:
            self.assertEqual(worlds.house_of(WORLD, house[0]), house)
            self.assertEqual(worlds.house_of(WORLD[::-1], house[0]), house)
        self.assertEqual(worlds.house_of(WORLD, "far"), ("far", (), 0, (), ()))
        self.assertEqual(worlds.house_of((), "mill"), ("mill", (), 0, (), ()))


class TestNamed(unittest.TestCase):
    def test_by_hand(self):
        self.assertEqual(worlds.named((), ()), ())
        self.assertEqual(worlds.named(WORLD, ()), (BARN, MILL))
        self.assertEqual(worlds.named(WORLD, (("far", "/b"), MILL, ("far", "/b"), ("far", "/"))),
                         (BARN, ("far", "/"), ("far", "/b"), MILL))
        self.assertEqual(worlds.named((), (MILL, BARN, MILL) * 2 + (BARN, MILL)), (BARN, MILL))

    def test_any_worlds(self):
        source = random.Random(38)
        for _ in range(200):
            world, seeds = some_world(source), tuple(some_address(source) for _ in range(source.randint(0, 8)))
            told = set(seeds)
            for house in world:
                for _, versions in house[4]:
                    for _, answer in versions:
                        told |= set(plain.links(answer))
            self.assertEqual(worlds.named(world, seeds), tuple(sorted(told)))


class TestErrors(unittest.TestCase):
    def test_errors(self):
        wrong = {"world": indexed_wrong(InvalidWorld, no_worlds()), "address": given(InvalidAddress, no_addresses()),
                 "moment": given(InvalidMoment, no_moments()),
                 "house": given(InvalidName, any_values() + ["", "A", "*", "a" * 13, b"a", 1])}
        for call in (worlds.told_at, worlds.outcome_of, worlds.next_change):
            refusals(self, call, [("world", WORLD), ("address", MILL), ("moment", LAST)], wrong)
        refusals(self, worlds.house_of, [("world", WORLD), ("house", "mill")], wrong)

    def test_seeds(self):
        rows = [((MILL,) * 9, None), ((None,) * 9, None)] + [((MILL, bad, None), 1) for bad in no_addresses()]
        wrong = {"world": indexed_wrong(InvalidWorld, no_worlds()[::20]),
                 "seeds": indexed_wrong(InvalidSeeds, rows + [((bad,), 0) for bad in no_addresses()])}
        refusals(self, worlds.named, [("world", WORLD), ("seeds", (MILL,) * 8)], wrong)
        for value in no_tuples():
            with self.assertRaises(InvalidSeeds) as caught:
                worlds.named(WORLD, value)
            self.assertIsNone(caught.exception.index)


if __name__ == "__main__":
    unittest.main()
