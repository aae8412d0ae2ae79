import random
import unittest
from itertools import product

from gentlerounds import alikefiles, decisions, files, limits, sharing
from gentlerounds.errors import InvalidFile, InvalidName
from tests.helper import any_values, given, indexed, refusals, slow_polite
from tests.samples import indexed_wrong, put
from tests.test_files import CRAWLERS, TestFiles, group, some_file

SHOP = (("bar", "/"), ("let", "/open"), ("bar", "/*.tmp$"))
PAIRS = ((2, 3), (1, 1))


def slow_names(file, other):
    names = {name for one in file + other for name in one[0]} - {"*"}
    firsts = {name[0] for name in names}
    return tuple(sorted(names | {next(sign for sign in "abcdefghijklmnopqrstuvwxyz" if sign not in firsts)}))


def slow_led(file, other, crawler):
    names = slow_names(file, other)
    letter = next(sign for sign in "abcdefghijklmnopqrstuvwxyz"
                  if not any(name[0] == sign for one in file + other for name in one[0]))
    for size in range(len(crawler), 0, -1):
        if crawler[:size] in names:
            return crawler[:size]
    return letter


def slow_alike(file, other, crawler):
    """Whether both treat a crawler alike, by functions that landed ahead of these."""
    paths = decisions.are_alike_paths(files.paths_of(file, crawler), files.paths_of(other, crawler))
    return paths and sharing.are_alike_rules(files.rules_of(file, crawler), files.rules_of(other, crawler))


class TestNames(unittest.TestCase):
    def test_by_hand(self):
        one, two = (group("b", "*", "ba"),), (group("a"), group("bab", "c"))
        self.assertEqual(alikefiles.names_that_matter(one, two), ("a", "b", "ba", "bab", "c", "d"))
        self.assertEqual(alikefiles.names_that_matter(one, one), ("a", "b", "ba"))
        self.assertEqual(alikefiles.names_that_matter((), ()), ("a",))
        self.assertEqual(alikefiles.names_that_matter((), two), ("a", "bab", "c", "d"))
        self.assertEqual(alikefiles.names_that_matter((group("*"),), ()), ("a",))
        for crawler, name in (("babb", "bab"), ("ba", "ba"), ("bb", "b"), ("b", "b"), ("cc", "c"), ("z", "d"),
                              ("d", "d"),
                              ("dd", "d"), ("aa", "a")):
            self.assertEqual(alikefiles.led_as(one, two, crawler), name)
        self.assertEqual(alikefiles.led_as(one, one, "c"), "a")
        self.assertEqual(alikefiles.led_as(one, one, "ab"), "a")
        self.assertEqual(alikefiles.led_as((), (), "zoe"), "a")

    def test_a_letter_late_in_the_alphabet(self):
        many = "abcdefghijklmnopqrstuvwx"
        one = tuple(group(*many[at:at + 3]) for at in range(0, 12, 3))
        two = tuple(group(*many[at:at + 3]) for at in range(12, 24, 3))
        self.assertEqual(alikefiles.names_that_matter(one, two), tuple(many) + ("y",))
        self.assertEqual(alikefiles.led_as(one, two, "zz"), "y")
        self.assertEqual(alikefiles.led_as(one, two, "xz"), "x")
        self.assertIs(alikefiles.are_alike_files(one, two), True)

    def test_any_files(self):
        source = random.Random(25)
        for _ in range(300):
            one, two = some_file(source), some_file(source)
            self.assertEqual(alikefiles.names_that_matter(one, two), slow_names(one, two))
            for crawler in CRAWLERS:
                name = alikefiles.led_as(one, two, crawler)
                self.assertEqual(name, slow_led(one, two, crawler))
                for file in (one, two):
                    self.assertEqual(files.group_of(file, crawler), files.group_of(file, name))


class TestParting(unittest.TestCase):
    def check(self, one, two):
        """Check what is told of two files; return whether they are alike."""
        names = tuple(name for name in slow_names(one, two) if not slow_alike(one, two, name))
        self.assertEqual(alikefiles.parted_names(one, two), names)
        self.assertIs(alikefiles.are_alike_files(one, two), not names)
        told = alikefiles.parting(one, two)
        self.assertEqual(told, alikefiles.parting(one, two))
        if not names:
            self.assertIsNone(told)
            return True
        name, what = told
        self.assertEqual(name, names[0])
        path = decisions.parting_path(files.paths_of(one, name), files.paths_of(two, name))
        if path is not None:
            self.assertEqual(what, path)
        else:
            self.assertIs(limits.is_polite(files.rules_of(one, name), what),
                          slow_polite(files.rules_of(one, name), what))
            self.assertNotEqual(*[slow_polite(files.rules_of(file, name), what) for file in (one, two)])
        return False

    def test_any_files(self):
        source = random.Random(26)
        alike = 0
        for _ in range(150):
            one, two = some_file(source), some_file(source)
            alike += self.check(one, two)
            self.assertTrue(self.check(one, one[::-1]))
        self.assertGreater(alike, 2)

    def test_told_otherwise(self):
        plain = (group("a", "b", paths=SHOP, limits=PAIRS, hours=(1, 0)), group("*", paths=SHOP[:1]))
        for paths, pairs, hours in product((SHOP, SHOP[::-1], SHOP + SHOP[1:2], SHOP + (("bar", "/x"),)),
                                           (PAIRS, PAIRS[::-1], PAIRS + ((3, 3),), PAIRS + PAIRS),
                                           ((1, 0), (1, 0, 1, 0))):
            other = (group("*", paths=(("bar", "/*"),)), group("b", paths=paths, limits=pairs, hours=hours),
                     group("a", paths=SHOP, limits=PAIRS, hours=(1, 0)))
            self.assertTrue(self.check(plain, other))
            self.assertTrue(self.check(other, plain))

    def test_one_thing_less(self):
        first, rest = group("a", "b", paths=SHOP, limits=((2, 3), (1, 2)), hours=(1, 0)), group("*", paths=SHOP[:1])
        both = ("a", "b")
        for other, names in (((put(first, 0, ("a",)), rest), ("b",)), ((put(first, 1, SHOP[:2]), rest), both),
                             ((put(first, 1, SHOP[1:]), rest), both), ((put(first, 2, ()), rest), both),
                             ((put(first, 2, ((2, 3),)), rest), both), ((put(first, 2, ((1, 2),)), rest), ()),
                             ((put(first, 3, (1,)), rest), both), ((put(first, 3, (0, 1)), rest), both),
                             ((first,), ("c",)), ((), ("a", "b", "c")), ((rest,), both)):
            self.assertEqual(alikefiles.parted_names((first, rest), other), names, other)
            self.assertEqual(alikefiles.parted_names(other, (first, rest)), names, other)
            self.check((first, rest), other)
            self.check(other, (first, rest))

    def test_asks_polite_by_just_one(self):
        loose, tight = (group("*", limits=((2, 3),)),), (group("*", limits=((1, 3),)),)
        for one, two in ((loose, tight), (tight, loose)):
            name, asks = alikefiles.parting(one, two)
            self.assertEqual((name, asks[0] <= asks[-1]), ("a", True))
            self.assertIs(slow_polite((((2, 3),), (1,)), asks), True)
            self.assertIs(slow_polite((((1, 3),), (1,)), asks), False)
        shut = (group("*", hours=(0, 1)),)
        self.assertEqual(alikefiles.parting((), shut)[0], "a")
        self.assertEqual([slow_polite(((), hours), alikefiles.parting(shut, ())[1]) for hours in ((1,), (0, 1))],
                         [True, False])

    def test_paths_go_ahead_of_asks(self):
        one = (group("*", paths=(("bar", "/x"),), limits=((1, 3),)),)
        self.assertEqual(alikefiles.parting(one, ()), ("a", "/x"))
        self.assertEqual(alikefiles.parting((), one), ("a", "/x"))
        self.assertEqual(alikefiles.parting((group("b", paths=(("bar", "/b"),)), group("a", limits=((1, 3),))), ())[0],
                         "a")

    def test_errors(self):
        rows = indexed(InvalidFile, TestFiles().rows())[::7]
        rows += indexed_wrong(InvalidFile, [((None,), 0), ((1,) * 5, None)])
        wrong = {"file": rows, "other": rows,
                 "crawler": given(InvalidName, any_values() + ["", "A", "*", "a" * 13, b"a", 1])}
        good = [("file", TestFiles.GOOD), ("other", TestFiles.GOOD[:2])]
        for call in (alikefiles.names_that_matter, alikefiles.parted_names, alikefiles.are_alike_files,
                     alikefiles.parting):
            refusals(self, call, good, wrong)
        refusals(self, alikefiles.led_as, good + [("crawler", "abc")], wrong)


if __name__ == "__main__":
    unittest.main()
