import random
import unittest

from gentlerounds import patterns
from gentlerounds.errors import InvalidPath, InvalidPattern, InvalidPatterns
from tests.helper import (any_values, fits, given, indexed, paths_over, patterns_over, refusals, slow_body,
                          slow_meets)

NO_PATTERNS = any_values() + ["", "a", "$", "*", "a/", "/$a", "/$$", "/$*", "/a$b", "/A", "/ a", "/a\n", "/\u00e9",
                              "/#",
                              "/%", "/?", "/+", "/" + "a" * 12, "/" + "*" * 12, "/" + "a" * 11 + "$", b"/a", ["/"], 1]
NO_PATHS = any_values() + ["", "a", "/*", "/a$", "/A", b"/a"]


def slow_places(pattern, path):
    body = slow_body(pattern)
    return tuple(many for many in range(len(body) + 1) if fits(body[:many], path))


class TestPatterns(unittest.TestCase):
    def test_each_sign(self):
        for code in list(range(300)) + [0x3b1, 0xd800]:
            sign = chr(code)
            right = sign in "-./0123456789_abcdefghijklmnopqrstuvwxyz*"
            self.assertIs(patterns.is_pattern("/" + sign + "a"), right, sign)
            self.assertIs(patterns.is_pattern("/a" + sign), right or sign == "$", sign)
            self.assertIs(patterns.is_pattern("/" + sign + "$"), right, sign)
            self.assertIs(patterns.is_pattern(sign + "a"), sign == "/", sign)
            self.assertIs(patterns.is_pattern(sign), sign == "/", sign)

    def test_lengths(self):
        for many in range(1, 15):
            for pattern in ("/" * many, "/" + "*" * (many - 1), "/" + "a" * (many - 2) + "$" if many > 1 else "/"):
                self.assertIs(patterns.is_pattern(pattern), many <= 12, pattern)

    def test_no_patterns(self):
        for value in NO_PATTERNS:
            self.assertIs(patterns.is_pattern(value), False, repr(value))
        for value in ("/", "/$", "//", "/*$", "/**", "/a*b*c*d*e*$"):
            self.assertIs(patterns.is_pattern(value), True)

    def test_bodies(self):
        for pattern, body in (("/", "/*"), ("/$", "/"), ("/a", "/a*"), ("/a$", "/a"), ("/*", "/**"), ("/*$", "/*"),
                              ("/" + "a" * 11, "/" + "a" * 11 + "*"), ("/" + "a" * 10 + "$", "/" + "a" * 10)):
            self.assertEqual(patterns.body_of(pattern), body)

    def test_errors(self):
        wrong = given(InvalidPattern, NO_PATTERNS)
        ways = given(InvalidPath, NO_PATHS)
        refusals(self, patterns.body_of, [("pattern", "/a")], {"pattern": wrong})
        for call in (patterns.places, patterns.meets):
            refusals(self, call, [("pattern", "/a*"), ("path", "/ab")], {"pattern": wrong, "path": ways})
        for call in (patterns.covers, patterns.are_apart):
            refusals(self, call, [("pattern", "/a*"), ("other", "/ab")], {"pattern": wrong, "other": wrong})
        refusals(self, patterns.next_places, [("pattern", "/a*"), ("places", (2, 3)), ("sign", "b")],
                 {"pattern": wrong})

    def test_errors_of_least_path(self):
        rows = [(("/a", value), 1) for value in NO_PATTERNS] + [((value,), 0) for value in NO_PATTERNS]
        rows += [(("/",) * 7, None), (("/a*", "/**", "/*", "/b*"), 3), (("/*****",), 0), (("/**", "/a", "/***$"), 2),
                 (("/****", "/*", 5), 1), (("/****", 5, "/*"), 1), ((1,) * 7, None)]
        wrong = indexed(InvalidPatterns, rows)
        good = [("met", ("/a*", "/**")), ("unmet", ("/b*", "/**", "/*$", "/", "/a", "/c"))]
        refusals(self, patterns.least_path, good, {"met": wrong, "unmet": wrong})
        self.assertEqual(patterns.least_path(("/****",), ("/****a",)), "/")


class TestPlaces(unittest.TestCase):
    def check(self, pattern, paths):
        body = slow_body(pattern)
        for path in paths:
            told = slow_places(pattern, path)
            self.assertEqual(patterns.places(pattern, path), told)
            self.assertIs(patterns.meets(pattern, path), len(body) in told)
            if len(path) > 1:
                ahead = slow_places(pattern, path[:-1])
                self.assertEqual(patterns.next_places(pattern, ahead, path[-1]), told)

    def test_all_small_ones(self):
        paths = paths_over("a/-", 5)
        for pattern in patterns_over("a/*", 4):
            self.check(pattern, paths)

    def test_longer_paths_and_patterns(self):
        source = random.Random(1)
        for _ in range(120):
            stars = source.randrange(5)
            inner = ["*"] * stars + [source.choice("ab/_9") for _ in range(source.randrange(11 - stars))]
            source.shuffle(inner)
            pattern = "/" + "".join(inner) + source.choice(("", "$"))
            self.check(pattern, ["/" + "".join(source.choice("ab/_9") for _ in range(source.randrange(25)))
                                 for _ in range(6)])
            self.check(pattern, ["/" + "".join(source.choice("abz") if sign == "*" else sign for sign in inner)])

    def test_ten_stars(self):
        for pattern in ("/**********", "/**********$", "/a**********", "/*****a*****", "/*****a****$"):
            self.check(pattern, ["/", "/a", "/b", "/ba", "/abab", "/bbbbba", "/aa.9_a"])

    def test_places_of_no_path(self):
        self.assertEqual(patterns.places("/a$", "/b"), ())
        self.assertEqual(patterns.next_places("/a$", (), "a"), ())
        self.assertEqual(patterns.places("/", "/" * 5000), (2,))
        self.assertIs(patterns.meets("/*a$", "/" + "b" * 5000 + "a"), True)


class TestLeastPath(unittest.TestCase):
    @classmethod
    def setUpClass(cls):
        # For each small pattern a number tells by its bits which of the paths it meets, the least path first.
        cls.paths = paths_over("-ab", 7)
        cls.rows = patterns_over("ab*", 3)
        cls.met = {row: sum(1 << at for at, path in enumerate(cls.paths) if slow_meets(row, path)) for row in cls.rows}
        cls.all = (1 << len(cls.paths)) - 1

    def first(self, bits):
        return self.paths[(bits & -bits).bit_length() - 1] if bits else None

    def test_covers_and_apart(self):
        for pattern in self.rows[::2]:
            for other in self.rows:
                bits, others = self.met[pattern], self.met[other]
                self.assertIs(patterns.covers(pattern, other), others & ~bits == 0, (pattern, other))
                self.assertIs(patterns.are_apart(pattern, other), others & bits == 0, (pattern, other))

    def test_covers_with_many_stars(self):
        self.assertIs(patterns.covers("/***********", "/*a*a*a*a*a*"), True)
        self.assertIs(patterns.covers("/*a*a*a*a*a*", "/***********"), False)
        self.assertIs(patterns.covers("/*a*a*a*a*$", "/*aaaa*"), True)
        self.assertIs(patterns.are_apart("/*********a$", "/*********b$"), True)
        self.assertIs(patterns.are_apart("/*********a", "/*********b"), False)

    def test_least_path_of_one_and_of_none(self):
        self.assertEqual(patterns.least_path((), ()), "/")
        for row in self.rows:
            if row.count("*") <= 4:
                self.assertEqual(patterns.least_path((row,), ()), self.first(self.met[row]))
                self.assertEqual(patterns.least_path((), (row,)), self.first(self.all & ~self.met[row]))
                self.assertIsNone(patterns.least_path((row,), (row,)))

    def test_least_path_of_many(self):
        source = random.Random(2)
        found = 0
        for _ in range(4000):
            met = self.some(source, source.choice((0, 1, 1, 1, 2, 2, 3, 6)))
            unmet = self.some(source, source.choice((0, 1, 2, 3, 4, 6)))
            bits = self.all
            for row in met:
                bits &= self.met[row]
            for row in unmet:
                bits &= ~self.met[row]
            path = patterns.least_path(met, unmet)
            if bits:
                found += 1
                self.assertEqual(path, self.first(bits), (met, unmet))
            elif path is not None:
                self.assertGreater(len(path), 7)
                self.assertTrue(all(slow_meets(row, path) for row in met), (met, unmet))
                self.assertFalse(any(slow_meets(row, path) for row in unmet), (met, unmet))
        self.assertGreater(found, 1000)

    def some(self, source, many):
        while True:
            rows = tuple(source.choice(self.rows) for _ in range(many))
            if sum(row.count("*") for row in rows) <= 4:
                return rows

    def test_signs_that_stand_in_no_pattern(self):
        for met, unmet, path in (
                ((), ("/$",), "/-"), ((), ("/$", "/-"), "/."), ((), ("/$", "/-", "/."), "//"),
                ((), ("/$", "/-", "/.", "//"), "/0"), ((), ("/$", "/-", "/.", "//", "/0"), "/1"),
                ((), ("/$", "/-", "/.", "//", "/0", "/1"), "/2"), (("/z",), ("/z$",), "/z-"),
                (("/z",), ("/z$", "/z-"), "/z."), (("/*z$",), ("/z$", "/-"), "/.z"), (("/*b",), ("/b$",), "/-b"),
                (("/*_",), ("/_",), "/-_"), (("/*a", "/*9"), (), "/9a"), (("/*.", "/*-"), (), "/-."),
                (("/*aba", "/*bab"), ("/a",), "/baba"), (("/*a$", "/*-$"), (), None),
                (("/a*b*c",), ("/abc",), "/a-bc")):
            self.assertEqual(patterns.least_path(met, unmet), path)
            self.assertEqual(patterns.least_path(met, unmet), path)

    def test_long_least_paths(self):
        rows = ("/*a123456789", "/*b123456789", "/*c123456789", "/*d123456789")
        self.assertEqual(patterns.least_path(rows, ()), "/a123456789b123456789c123456789d123456789")
        self.assertEqual(patterns.least_path(rows, ("/*9b",)), "/b123456789a123456789c123456789d123456789")
        self.assertEqual(patterns.least_path(("/*aaaa", "/*bbbb"), ("/aaaa",)), "/bbbbaaaa")
        self.assertEqual(patterns.least_path(("/" + "a" * 11, "/*b$"), ()), "/" + "a" * 11 + "b")


if __name__ == "__main__":
    unittest.main()
