import random
import unittest

from gentlerounds import tasks
from gentlerounds.errors import InvalidAddress, InvalidName, InvalidWorld
from tests import plain
from tests.helper import any_values, given, no_numbers, no_tuples, refusals
from tests.samples import (FILE, HOUSE, LAST, MILL, NAMES, PATHS, indexed_wrong, no_addresses, no_moments, no_worlds,
                           put,
                           some_world)

SLOW = ("slow", ((("ann",), (("bar", "/no"),), ((2, 5), (1, 2)), (1, 1, 0)), (("a", "*"), (), ((3, 4),), (1,))), 0, (),
        ())
WORLD = (SLOW, ("quick", (), 1, (), ()))
TASK = ("ann", (MILL, ("slow", "/")), 3, 2, ((0, "slow"), (1, "quick"), (1, "quick"), (3, "slow"), (6, "slow"),
                                             (7, "far")))
NO_NAMES = ["", "A", "*", "a" * 13, b"a", 1, "a b"]


def no_pasts():
    """Rows (PAST, INDEX): values that are no earlier asks of ann in the world, beside those that are no tuples."""
    free = tuple((at // 9, "far") for at in range(400))
    rows = [(free + ((50, "far"),), None), ((None,) * 401, None), (put(free, 399, (LAST + 1, "far")), 399)]
    wrong = any_values() + [(0,), (0, "far", 1), [0, "far"], ("far", 0)]
    rows += [(((0, "slow"), bad, (1, "far")), 1) for bad in wrong]
    rows += [(((bad, "far"), None), 0) for bad in no_moments()]
    rows += [(((1, "far"), (1, bad)), 1) for bad in any_values() + NO_NAMES]
    rows += [(((3, "far"), (2, "quick")), 1), (((3, "far"), (4, "slow"), (3, "far")), 2),
             (((LAST, "far"), (0, "far")), 1)]
    rows += [(((4, "far"),) * 10, 9), (((3, "far"),) + ((4, "far"), (4, "quick")) * 5 + (None,), 10),
             (((4, "far"),) * 9 + ((5, "far"),) * 10, 18), (((4, "far"),) * 11, 9)]
    rows += [(((0, "slow"), (1, "slow")), 1), (((2, "slow"),), 0), (((0, "slow"), (3, "slow"), (4, "slow")), 2),
             (((0, "slow"), (0, "far"), (0, "slow"), None), 2), (((1, "slow"), (3, "slow"), (5, "slow")), 2)]
    return rows


def good_pasts():
    """Earlier asks of ann in the world."""
    free = tuple((at // 9, "far") for at in range(400))
    return [(), free, put(free, 399, (LAST, "far")), TASK[4], ((0, "slow"), (3, "slow"), (6, "slow")),
            ((4, "far"),) * 9,
            ((0, "far"), (0, "slow"), (0, "quick"), (3, "slow")), ((4, "quick"),) * 9 + ((5, "quick"),) * 9,
            ((LAST, "far"),)]


class TestTasks(unittest.TestCase):
    def check(self, value, right, world=WORLD):
        self.assertIs(tasks.is_task(world, value), right, repr(value)[:300])

    def test_right_ones(self):
        self.check(TASK, True)
        for past in good_pasts():
            self.check(put(TASK, 4, past), True)
        for seeds in ((), (MILL,) * 8, (MILL, ("far", "/" + "a" * 39))):
            self.check(put(TASK, 1, seeds), True)
        for number in range(-1, 12):
            self.check(put(TASK, 2, number), 1 <= number <= 9)
            self.check(put(TASK, 3, number), 0 <= number <= 3)
        self.check(("a" * 12, (), 1, 0, ()), True, ())

    def test_wrong_ones(self):
        for value in no_tuples() + any_values() + [TASK[:4], TASK + ((),), list(TASK), (), TASK[::-1], (TASK,)]:
            self.check(value, False)
        for value in any_values() + NO_NAMES:
            self.check(put(TASK, 0, value), False)
        for value in no_tuples() + [(bad,) for bad in no_addresses()] + [(MILL, None, MILL), (MILL,) * 9, MILL]:
            self.check(put(TASK, 1, value), False)
        for value in no_numbers(1, 9):
            self.check(put(TASK, 2, value), False)
        for value in no_numbers(0, 3):
            self.check(put(TASK, 3, value), False)
        for value in no_tuples() + [value for value, _ in no_pasts()]:
            self.check(put(TASK, 4, value), False)

    def test_earlier_asks_by_the_crawler_and_the_world(self):
        # What is too soon for ann is not for another crawler, and not in a world that does not tell the house.
        for past in (((0, "slow"), (1, "slow")), ((2, "slow"),)):
            self.check(put(TASK, 4, past), False)
            self.check(put(TASK, 4, past), True, ())
            self.check(put(TASK, 4, past), True, WORLD[1:])
            self.check(put(put(TASK, 4, past), 0, "bob"), True)
            self.check(put(put(TASK, 4, past), 0, "an"), True)
            self.check(put(put(TASK, 4, past), 0, "anna"), False)
        self.check(put(TASK, 4, ((0, "slow"),) * 2), False)
        self.check(("bob", (), 1, 0, ((0, "slow"),) * 3), True)
        self.check(("bob", (), 1, 0, ((0, "slow"),) * 4), False)

    def test_earlier_asks_against_counted_windows(self):
        source = random.Random(34)
        seen = {True: 0, False: 0}
        for _ in range(600):
            world = some_world(source)
            past, moment = (), 0
            for _ in range(source.randint(1, 5)):
                moment += source.randint(0, 6)
                past += ((moment, source.choice(NAMES)),)
            right = True
            for at, (moment, name) in enumerate(past):
                right = right and plain.may_ask(world, ("ann", (), 1, 0, past[:at]), (), name, moment)
            self.check(("ann", (), 1, 0, past), right, world)
            seen[right] += 1
        self.assertGreater(min(seen.values()), 100)


class TestHouses(unittest.TestCase):
    def test_by_hand(self):
        self.assertEqual(tasks.rules_at(WORLD, "ann", "slow"), (((2, 5), (1, 2)), (1, 1, 0)))
        self.assertEqual(tasks.rules_at(WORLD, "annie", "slow"), (((2, 5), (1, 2)), (1, 1, 0)))
        for crawler in ("an", "bob", "a", "z"):
            self.assertEqual(tasks.rules_at(WORLD, crawler, "slow"), (((3, 4),), (1,)))
        for house in ("quick", "far"):
            self.assertEqual(tasks.rules_at(WORLD, "ann", house), ((), (1,)))
        self.assertEqual(tasks.rules_at((put(SLOW, 1, SLOW[1][:1]),), "bob", "slow"), ((), (1,)))
        for crawler, path, right in (("ann", "/no", False), ("annie", "/no/a", False), ("ann", "/n", True),
                                     ("bob", "/no", True)):
            self.assertIs(tasks.may_be_asked(WORLD, crawler, ("slow", path)), right)
            self.assertIs(tasks.may_be_asked(WORLD, crawler, ("far", path)), True)
            self.assertIs(tasks.may_be_asked(WORLD, crawler, ("quick", path)), True)
            self.assertIs(tasks.may_be_asked((), crawler, ("slow", path)), True)

    def test_any_worlds(self):
        source = random.Random(35)
        for _ in range(150):
            world = some_world(source)
            for crawler in ("ann", "anna", "an", "a", "b", "annex"):
                for name in NAMES + ("far",):
                    self.assertEqual(tasks.rules_at(world, crawler, name), plain.group(world, crawler, name)[1])
                    for path in PATHS + ("/no/b", "/x/a"):
                        self.assertIs(tasks.may_be_asked(world, crawler, (name, path)),
                                      plain.let(world, crawler, (name, path)))


class TestErrors(unittest.TestCase):
    def test_errors(self):
        names = given(InvalidName, any_values() + NO_NAMES)
        wrong = {"world": indexed_wrong(InvalidWorld, no_worlds()), "crawler": names, "house": names,
                 "address": given(InvalidAddress, no_addresses())}
        refusals(self, tasks.is_task, [("world", WORLD), ("value", TASK)], wrong)
        refusals(self, tasks.rules_at, [("world", WORLD), ("crawler", "ann"), ("house", "slow")], wrong)
        refusals(self, tasks.may_be_asked, [("world", (HOUSE,)), ("crawler", "ann"), ("address", MILL)], wrong)
        self.assertIs(tasks.is_task((put(HOUSE, 1, FILE),), 7), False)
        with self.assertRaises(InvalidWorld):
            tasks.is_task((HOUSE, HOUSE), None)


if __name__ == "__main__":
    unittest.main()
