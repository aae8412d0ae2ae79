import random
import unittest

from gentlerounds import files, filetexts
from gentlerounds.errors import InvalidFile, InvalidLine
from tests import plain
from tests.helper import any_values, indexed, no_tuples, refusals, some_hours, some_limits, tells
from tests.samples import edits
from tests.test_files import TestFiles

ROW = "for a\nbar /\nlet /a*$\nmost 2 in 5\nopen 10\n"
FULL = "".join("".join(f"for {first}{last}\n" for last in "xyz") + "bar /*\nlet /*\n" + "bar /**\n" + "let /a\n" * 3
               + "most 6 in 12\n" * 4 + "open 000000000001\n" for first in "abcd")
TEXTS = [ROW, FULL, "for *\n", "", "for a\n# all\n\n   \nfor b#c\n let   /x \n\nfor c # d\n",
         "for a\nmost 1 in 1\nbar /\nmost 1 in 1\nopen 1\nlet /\nfor b\nopen 011\nbar /a\nfor *\nfor ab\n",
         "for a\nfor b\nfor *\nbar /***a*$\nfor c\nbar /a$\nbar /*$\nbar /***$\n"]
LINES = ["for a", "for *", "for zz", "for b", "bar /", "let /a*", "most 1 in 3", "open 1", "", "#", "  ", "bar a",
         "for A",
         "most 0 in 3", "most 1 in 13", "open 0", "open", "for", "bar", "let", "most", "FOR a", "for a b", "bar / /",
         "most 1 in 3 4", "most 1 of 3", "most 1 in", "open 1 0", "bar /****", "let /*****", "for " + "q" * 13, "x"]
SIGNS = " #/*$01239abfor\n"


def told(text):
    """What the program tells of a text, as the plain reader tells it."""
    try:
        return "file", filetexts.read_file(text)
    except InvalidLine as wrong:
        return "wrong", wrong.index


def some_file(source):
    names = ["a", "ab", "b", "c", "abcdefghijkl", "*", "d", "e", "f", "g", "h", "i"]
    source.shuffle(names)
    groups = []
    for _ in range(source.randint(0, 4)):
        paths, stars = [], 0
        for _ in range(source.randint(0, 6)):
            pattern = source.choice(("/", "/a", "/*", "/a*$", "/**", "/abcdefghij$", "/-._/0"))
            stars += pattern.count("*")
            if stars <= 4:
                paths.append((source.choice(("bar", "let")), pattern))
        groups.append((tuple(names.pop() for _ in range(source.randint(1, 3))), tuple(paths), some_limits(source),
                       some_hours(source)))
    return tuple(groups)


def told_otherwise(source, file):
    """Another text of the same file: rows and limits in each other's midst, `open` anywhere, remarks and blanks."""
    lines = []
    for names, paths, limits, hours in file:
        bars = [f"{word} {pattern}" for word, pattern in paths]
        mosts = [f"most {most} in {wide}" for most, wide in limits]
        rows = []
        while bars or mosts:
            rows.append((bars if bars and (not mosts or source.random() < 0.5) else mosts).pop(0))
        if hours != (1,) or source.random() < 0.5:
            rows.insert(source.randint(0, len(rows)), "open " + "".join(map(str, hours)))
        # A group without rows would take the names of the one behind it, so it is told apart by its hours.
        lines += [f"for {name}" for name in names] + (rows or ["open 1"])
    for at in range(len(lines), -1, -1):
        if source.random() < 0.3:
            lines.insert(at, source.choice(("", "  ", "# for z", " #", "#bar")))
    wide = [line.replace(" ", source.choice((" ", "   "))) for line in lines]
    return "".join(source.choice(("", " ")) + line + source.choice(("", "  ", " # x", "#y")) + "\n" for line in wide)


class TestReading(unittest.TestCase):
    def test_texts_next_to_right_ones(self):
        source = random.Random(22)
        seen = {"file": 0, "wrong": 0}
        for text in TEXTS:
            self.assertEqual(plain.read_file(text)[0], "file")
            self.assertEqual(told(text), plain.read_file(text))
            for _ in range(300):
                for other in edits(source, text, LINES, SIGNS):
                    self.assertEqual(told(other), plain.read_file(other), other)
                    seen[told(other)[0]] += 1
        self.assertGreater(min(seen.values()), 2000)

    def test_all_beginnings(self):
        for text in TEXTS:
            for many in range(len(text) + 1):
                self.assertEqual(told(text[:many]), plain.read_file(text[:many]))

    def test_any_lines(self):
        source = random.Random(23)
        for _ in range(3000):
            lines = ["for x"] + [source.choice(LINES) for _ in range(source.randint(0, 8))]
            text = "\n".join(lines[source.randint(0, 1):]) + source.choice(("\n", "\n", ""))
            self.assertEqual(told(text), plain.read_file(text), text)

    def test_too_many(self):
        for head, line, most in (("", "for {}\nopen 1", 4), ("", "for {}", 3), ("for a\n", "bar /", 6),
                                 ("for a\n", "let /*", 4),
                                 ("for a\n", "most 1 in 1", 4), ("for a\n", "open 1", 1)):
            lines = [line.format("bcdefgh"[at]) for at in range(most + 1)]
            right, wrong = head + "\n".join(lines[:most]) + "\n", head + "\n".join(lines) + "\n"
            self.assertEqual(told(right)[0], "file", right)
            first = right.count("\n")
            self.assertEqual(told(wrong), ("wrong", first), wrong)
            self.assertEqual(told(wrong + "x\n"), ("wrong", first))
            self.assertEqual(told(wrong + "x"), ("wrong", first))

    def test_groups_by_lines_that_count(self):
        for between, groups in (("", 1), ("\n", 1), ("# x\n", 1), ("   \n", 1), ("bar /\n", 2), ("most 1 in 1\n", 2),
                                ("open 1\n", 2)):
            file = filetexts.read_file("for a\n" + between + "for b\nlet /\n")
            self.assertEqual(len(file), groups)
            self.assertEqual(file[-1][:2], (("a", "b") if groups == 1 else ("b",), (("let", "/"),)))

    def test_numbers(self):
        for word in ("01", "00", "+1", "1.", "-1", "", "0", "7", "1 1", "\u0661", "\u00b2", "1_0", "10", "6"):
            right = word == "6"
            self.assertEqual(told(f"for a\nmost {word} in 3\n")[0] == "file", right, word)
        for word, right in (("1", True), ("12", True), ("9", True), ("10", True), ("0", False), ("13", False),
                            ("012", False),
                            ("1" * 30, False), ("1" * 3000, False)):
            self.assertEqual(told(f"for a\nmost 2 in {word}\n")[0] == "file", right, word)
        for word, right in (("1", True), ("01", True), ("0" * 11 + "1", True), ("0" * 12, False), ("1" * 13, False),
                            ("0", False),
                            ("2", False), ("1x", False), ("1,0", False), ("(1)", False), ("\u0661", False)):
            self.assertEqual(told(f"for a\nopen {word}\n")[0] == "file", right, word)

    def test_names_told_twice(self):
        for name in ("a", "*"):
            self.assertEqual(told(f"for {name}\nbar /\nfor b\nfor {name}\n"), ("wrong", 3))
            self.assertEqual(told(f"for {name}\nfor {name}\n"), ("wrong", 1))
        file = ((("a", "*", "aa"), (("bar", "/"),), (), (1,)),)
        self.assertEqual(told("for a\nfor *\nfor aa\nbar /\n"), ("file", file))

    def test_behind_the_last_line_feed(self):
        for rest in (" ", "#", "# x", "for b", "x", "  # y"):
            self.assertEqual(told("for a\n" + rest), ("wrong", 1))
            self.assertEqual(told(rest), ("wrong", 0))
            self.assertEqual(told("x\nfor a\n" + rest), ("wrong", 0))

    def test_how_many_signs(self):
        for many in (3999, 4000, 4001, 5000):
            for text in ("for a\n" + "#" * (many - 7) + "\n", "for a\n" + "\n" * (many - 6),
                         " " * (many - 6) + "for a\n"):
                self.assertEqual(len(text), many)
                self.assertEqual(told(text), ("file", ((("a",), (), (), (1,)),)) if many <= 4000 else ("wrong", None))
            self.assertEqual(told("x" * many), ("wrong", 0) if many <= 4000 else ("wrong", None))

    def test_no_strings(self):
        rows = [(value, InvalidLine, None) for value in any_values() + no_tuples() if not isinstance(value, str)]
        rows += [("for A\n", InvalidLine, 0), ("\n\nx\n", InvalidLine, 2), (b"for a\n", InvalidLine, None),
                 (("for a\n",), InvalidLine, None), ("a" * 4001, InvalidLine, None)]
        refusals(self, filetexts.read_file, [("text", ROW)], {"text": rows})


class TestPrints(unittest.TestCase):
    def test_print_by_hand(self):
        file = ((("a", "*"), (("let", "/b$"), ("bar", "/")), ((2, 3), (1, 1)), (0, 1)), (("b",), (), (), (1,)))
        self.assertEqual(filetexts.print_file(file),
                         "for a\nfor *\nlet /b$\nbar /\nmost 2 in 3\nmost 1 in 1\nopen 01\nfor b\nopen 1\n")

    def test_there_and_back(self):
        source = random.Random(24)
        for _ in range(300):
            file = some_file(source)
            text = filetexts.print_file(file)
            self.assertEqual(filetexts.read_file(text), file)
            self.assertEqual(filetexts.print_file(file), text)
            self.assertEqual(text.count("open "), len(file))
            self.assertIs(files.is_file(filetexts.read_file(text)), True)
            for _ in range(4):
                other = told_otherwise(source, file)
                self.assertEqual(filetexts.read_file(other), file, other)

    def test_the_longest(self):
        file = filetexts.read_file(FULL)
        self.assertEqual([len(file)] + [len(part) for part in file[3]], [4, 3, 6, 4, 12])
        self.assertEqual(filetexts.read_file(filetexts.print_file(file)), file)
        self.assertEqual(filetexts.print_file(file), FULL)

    def test_errors(self):
        refusals(self, filetexts.print_file, [("file", TestFiles.GOOD)],
                 {"file": indexed(InvalidFile, TestFiles().rows())})
        tells(self, InvalidFile, 1, lambda: filetexts.print_file((TestFiles.GOOD[1], None)))


if __name__ == "__main__":
    unittest.main()
