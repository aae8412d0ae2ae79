import unittest

from gentlerounds import names
from gentlerounds.errors import InvalidPath
from tests.helper import any_values, given, paths_over, refusals

SIGNS = "-./" + "0123456789" + "_" + "abcdefghijklmnopqrstuvwxyz"


class TestNames(unittest.TestCase):
    def test_each_sign(self):
        for code in list(range(300)) + [0x3b1, 0xdf, 0x661, 0x1d44e, 0xd800]:
            sign = chr(code)
            for name in (sign, "a" + sign, sign + "a", "ab" + sign + "c"):
                self.assertIs(names.is_name(name), "a" <= sign <= "z" and code < 128, name)

    def test_lengths(self):
        for many in (0, 1, 2, 11, 12, 13, 14, 100):
            self.assertIs(names.is_name("a" * many), 1 <= many <= 12)
            self.assertIs(names.is_name("z" * many), 1 <= many <= 12)

    def test_no_names(self):
        for value in any_values() + ["*", "a*", " a", "a ", "a\n", b"a", ["a"], ("a",), 1]:
            self.assertIs(names.is_name(value), False)


class TestPaths(unittest.TestCase):
    def test_signs_of_paths(self):
        self.assertEqual(names.signs_of_paths(), SIGNS)
        self.assertEqual(len(names.signs_of_paths()), 40)
        self.assertEqual(names.signs_of_paths(), names.signs_of_paths())

    def test_each_sign(self):
        for code in list(range(300)) + [0x3b1, 0x661, 0x2044, 0xd800]:
            sign = chr(code)
            for path in ("/" + sign, "/a" + sign, "/" + sign + "a", "/" * 30 + sign):
                self.assertIs(names.is_path(path), sign in SIGNS, path)
            self.assertIs(names.is_path(sign + "/"), sign == "/")

    def test_values_beside_paths(self):
        for value in any_values() + ["", "a", "a/", "/*", "/a$", "/A", " /", "/ ", "/\n", b"/", ["/"], ("/",),
                                     ("/", "a"), 1]:
            self.assertIs(names.is_path(value), False)
        for path in ("/", "//", "/" * 13, "/a.b-c_9", "/" + "a" * 19999):
            self.assertIs(names.is_path(path), True)


class TestLesser(unittest.TestCase):
    def test_order(self):
        rows = paths_over(SIGNS, 3)
        for first, second in zip(rows, rows[1:]):
            self.assertIs(names.is_lesser(first, second), True)
            self.assertIs(names.is_lesser(second, first), False)
        few = paths_over("-/0_z", 4)
        for place, path in enumerate(few):
            for other in range(0, len(few), 7):
                self.assertIs(names.is_lesser(path, few[other]), place < other)

    def test_errors(self):
        wrong = given(InvalidPath, any_values() + ["", "a", "/*", "/a$", "/A"])
        refusals(self, names.is_lesser, [("path", "/a"), ("other", "/b")], {"path": wrong, "other": wrong})


if __name__ == "__main__":
    unittest.main()
