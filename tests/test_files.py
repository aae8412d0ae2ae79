import random
import unittest

from gentlerounds import decisions, files
from gentlerounds.errors import InvalidFile, InvalidName, InvalidPath
from tests.helper import any_values, given, indexed, no_hours, no_limits, no_tuples, paths_over, refusals

PATHS = (("bar", "/"), ("let", "/a"), ("bar", "/*b$"))
NAMES = ("a", "ab", "abc", "abcd", "b", "ba", "bb", "c", "abcdefghijkl", "*")
CRAWLERS = ("a", "ab", "abb", "abc", "abcde", "abcdefghijkl", "abcdefghijk", "b", "ba", "bab", "bb", "c", "cc", "d",
            "z", "aa")


def group(*names, paths=(), limits=(), hours=(1,)):
    return names, paths, limits, hours


def slow_group(file, crawler):
    """The index of the crawler's group, as the document tells it."""
    rows = [(name, index) for index, one in enumerate(file) for name in one[0]]
    for size in range(len(crawler), 0, -1):
        for name, index in rows:
            if name == crawler[:size]:
                return index
    return next((index for name, index in rows if name == "*"), None)


def some_file(source):
    names = list(NAMES)
    source.shuffle(names)
    groups = []
    for index in range(source.randint(0, 4)):
        told = tuple(names.pop() for _ in range(source.randint(1, 3)) if names)
        if told:
            groups.append((told, PATHS[:index] if source.random() < 0.7 else PATHS[::-1], ((index + 1, 5),),
                           (1,) + (0,) * index))
    return tuple(groups)


class TestGroups(unittest.TestCase):
    def test_against_all_beginnings(self):
        source = random.Random(20)
        for _ in range(500):
            file = some_file(source)
            self.assertIs(files.is_file(file), True)
            for crawler in CRAWLERS:
                index = slow_group(file, crawler)
                paths = () if index is None else file[index][1]
                self.assertEqual(files.group_of(file, crawler), index, (file, crawler))
                self.assertEqual(files.paths_of(file, crawler), paths)
                told = ((), (1,)) if index is None else (file[index][2], file[index][3])
                self.assertEqual(files.rules_of(file, crawler), told)
                for path in ("/", "/b", "/ab", "/a"):
                    self.assertEqual(files.reason(file, crawler, path), (index, decisions.deciding(paths, path)))
                    self.assertIs(files.is_let(file, crawler, path), decisions.is_let_by(paths, path))

    def test_names_that_begin_one_another(self):
        file = (group("*", "ab"), group("a", paths=PATHS), group("abc", "b"))
        for crawler, index in (("ab", 0), ("abb", 0), ("abc", 2), ("abcd", 2), ("a", 1), ("ac", 1), ("b", 2), ("c", 0),
                               ("z", 0)):
            self.assertEqual(files.group_of(file, crawler), index)
            self.assertEqual(files.group_of(file[::-1], crawler), 2 - index)
        self.assertEqual([files.group_of(file[1:], crawler) for crawler in ("c", "a", "ab", "b", "abc")],
                         [None, 0, 0, 1, 1])
        self.assertEqual(files.group_of((), "a"), None)
        self.assertEqual(files.group_of((group("abcd"), group("abcde")), "abc"), None)

    def test_reasons(self):
        file = (group("a", paths=PATHS), group("*"))
        self.assertEqual(files.reason(file, "ab", "/ab"), (0, 2))
        self.assertEqual(files.reason(file, "ab", "/ac"), (0, 1))
        self.assertEqual(files.reason(file, "ab", "/"), (0, 0))
        self.assertEqual(files.reason(file, "b", "/"), (1, None))
        self.assertEqual(files.reason(file[:1], "b", "/"), (None, None))
        self.assertIs(files.is_let(file, "ab", "/ab"), False)
        self.assertIs(files.is_let(file[:1], "b", "/ab"), True)
        for path in paths_over("ab-", 4):
            self.assertIs(files.is_let(file, "ab", path), decisions.is_let_by(PATHS, path))


class TestFiles(unittest.TestCase):
    GOOD = (group("a", "ab", "*", paths=PATHS), group("b", limits=((1, 2),) * 4), group("c", hours=(0, 1)), group("d"))
    BAD = [((), (), (), (1,)), (("e", "f", "g", "h"), (), (), (1,)), ("e", (), (), (1,)), (["e"], (), (), (1,)),
           (("e",), (), ()),
           (("e",), (), (), (1,), ()), [("e",), (), (), (1,)], (("e",), [], (), (1,)), (("E",), (), (), (1,)),
           (("",), (), (), (1,)),
           (("**",), (), (), (1,)), (("e*",), (), (), (1,)), (("e" * 13,), (), (), (1,)), (("e", None), (), (), (1,)),
           (("e", "e"), (), (), (1,)), (("*", "e", "*"), (), (), (1,)), (("e",), (("bar", "a"),), (), (1,)),
           (("e",), (("bar", "/"),) * 7, (), (1,)), (("e",), (("bar", "/***"), ("bar", "/**")), (), (1,)),
           (("e",), (), (1,), ()),
           (("e",), (), (1,), (1,)), ((b"e",), (), (), (1,)), ((("e",),), (), (), (1,)), ((True,), (), (), (1,))]

    def bad_groups(self):
        more = [(("e",), (), value, (1,)) for value in no_limits()] + [(("e",), (), (), value) for value in no_hours()]
        return self.BAD + any_values() + more + [((value,), (), (), (1,)) for value in any_values()]

    def rows(self):
        good = self.GOOD
        rows = [((value,), 0) for value in self.bad_groups()]
        rows += [(good[:2] + (value,) + good[3:], 2) for value in self.bad_groups()]
        return rows + [(good + (group("e"),), None), ((1,) * 5, None), ((good[0], group("b", "ab")), 1),
                       ((good[0], group("*")), 1),
                       ((good[1], good[2], good[0], group("e", "c")), 3), ((good[1], good[1], None), 1),
                       ((good[1], None, good[1]), 1),
                       ((good[3], group("d", "d")), 1)]

    def test_files(self):
        self.assertIs(files.is_file(()), True)
        self.assertIs(files.is_file(self.GOOD), True)
        for many in range(5):
            self.assertIs(files.is_file(self.GOOD[:many]), True)
        self.assertIs(files.is_file((group("e" * 12, "e" * 11, "z"),)), True)
        for value in no_tuples() + [value for value, _ in self.rows()]:
            self.assertIs(files.is_file(value), False, repr(value))

    def test_errors(self):
        wrong = {"file": indexed(InvalidFile, self.rows()),
                 "crawler": given(InvalidName, any_values() + ["", "A", "*", "a" * 13, b"a", 1]),
                 "path": given(InvalidPath, any_values() + ["", "a", "/*", "/a$", b"/a", 1])}
        for call in (files.group_of, files.paths_of, files.rules_of):
            refusals(self, call, [("file", self.GOOD), ("crawler", "abc")], wrong)
        for call in (files.is_let, files.reason):
            refusals(self, call, [("file", self.GOOD), ("crawler", "abc"), ("path", "/a")], wrong)


if __name__ == "__main__":
    unittest.main()
