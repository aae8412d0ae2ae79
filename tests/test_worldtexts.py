import random
import unittest

from gentlerounds import filetexts, worldtexts
from gentlerounds.errors import InvalidLine, InvalidWorld
from tests import plain
from tests.helper import any_values, no_tuples, refusals
from tests.samples import ANSWERS, FILE, HOUSE, LAST, MILL, PAGE, edits, indexed_wrong, no_worlds, put, some_world
from tests.test_filetexts import told_otherwise

MOST = ("most" * 3, FILE, 3, tuple(range(5, 25)),
        tuple(("/" + "a" * at, tuple((moment, ANSWERS[moment % 6]) for moment in range(6))) for at in range(12)))
WORLDS = [(), (HOUSE,), (("inn", (), 0, (), ()),), (("inn", (), 1, (LAST,), ()), HOUSE, ("far", FILE, 0, (), (PAGE,))),
          tuple(put(HOUSE, 0, name) for name in "fedcba"), (MOST,),
          (("mill", FILE[:1], 2, (3, 5), (("/", ((0, ("page", 999999, (MILL,) * 6)), (LAST, ("gone",)))),)),)]
OTHERS = ["house mill 0\n # closed\n", "house mill 0\n for a # x\n \n  bar  /\nlost 3\n",
          "house a 3\n for *\n most 1 in 3\n \n bar /no\n open 01\npage /\n0 gone\n"]
LINES = ["house mill 0", "house z 3", "house z 4", "house Z 0", "house z", "house z 00", "house z 0 0", "lost 3",
         "lost 1 2",
         "lost 2 2", "lost", "lost 03", "page /a", "page /q", "page a", "page", "page /a /b", "0 gone", "7 gone",
         "3 page 4", "3 page 04", "8 page 4 mill/a", "9 moved mill/a", "9 same barn/x", "9 same",
         "9 moved mill/a mill/a",
         "9 gone mill/a", "9 lost", "9 page", "9 page 1000000", "9 page 1" + " a/b" * 7, "9 page 1" + " a/b" * 6,
         "gone", "",
         " ", " # x", " for z", " for a", " bar /", " most 1 in 3", " open 1", " x", "for z", "  for zz",
         "1000000000000 gone",
         "999999999999 gone", "house  y 0", " house y 0", "house y 0 ", "9  gone", "9 gone ", " 9 gone", "lost 1  2"]
SIGNS = " \n0123abmilpg/#-*"


def told(text):
    """What the program tells of a text, as the plain reader tells it."""
    try:
        return "world", worldtexts.read_world(text)
    except InvalidLine as wrong:
        return "wrong", wrong.index


class TestPrints(unittest.TestCase):
    def test_there_and_back(self):
        source = random.Random(29)
        worlds = WORLDS + [some_world(source) for _ in range(200)]
        texts = [worldtexts.print_world(world) for world in worlds]
        for world, text in zip(worlds, texts):
            self.assertEqual(worldtexts.read_world(text), world)
            self.assertEqual(worldtexts.print_world(world), text)
            self.assertEqual(plain.read_world(text), ("world", world))
        self.assertEqual(len(set(texts)), len(set(worlds)))

    def test_print_by_hand(self):
        self.assertEqual(worldtexts.print_world((HOUSE,)),
                         "house mill 3\n for a\n for ab\n for *\n bar /no\n let /no*$\n most 2 in 3\n open 10\n"
                         " for b\n open 1\nlost 0 4 999999999999\npage /a\n0 page 1 mill/a\n5 moved barn/x\n"
                         "999999999999 gone\npage /b\n3 same mill/a\n")
        self.assertEqual(worldtexts.print_world(()), "")
        self.assertEqual(worldtexts.print_world(WORLDS[2]), "house inn 0\n")

    def test_files_told_in_other_ways(self):
        source = random.Random(30)
        for _ in range(200):
            world = some_world(source)
            text = ""
            for house in world:
                rest = worldtexts.print_world((put(house, 1, ()),)).split("\n", 1)
                lines = told_otherwise(source, house[1]).split("\n")[:-1]
                text += rest[0] + "\n" + "".join(" " + line + "\n" for line in lines) + rest[1]
            self.assertEqual(worldtexts.read_world(text), world, text)

    def test_errors(self):
        wrong = {"world": indexed_wrong(InvalidWorld, no_worlds())}
        refusals(self, worldtexts.print_world, [("world", (HOUSE,))], wrong)
        for value in no_tuples():
            with self.assertRaises(InvalidWorld) as caught:
                worldtexts.print_world(value)
            self.assertIsNone(caught.exception.index)


class TestReading(unittest.TestCase):
    def check(self, text):
        self.assertEqual(told(text), plain.read_world(text), text)
        return told(text)[0]

    def test_texts_next_to_right_ones(self):
        source = random.Random(31)
        seen = {"world": 0, "wrong": 0}
        for text in [worldtexts.print_world(world) for world in WORLDS] + OTHERS:
            self.assertEqual(self.check(text), "world")
            for _ in range(200):
                for other in edits(source, text, LINES, SIGNS):
                    seen[self.check(other)] += 1
        self.assertGreater(min(seen.values()), 1000)

    def test_two_edits(self):
        source = random.Random(32)
        for _ in range(600):
            text = worldtexts.print_world(some_world(source))
            other = source.choice(list(edits(source, text, LINES, SIGNS)))
            for more in edits(source, other, LINES, SIGNS):
                self.check(more)

    def test_all_beginnings(self):
        for text in [worldtexts.print_world(world) for world in WORLDS[:5]] + OTHERS:
            for many in range(len(text) + 1):
                self.check(text[:many])

    def test_any_lines(self):
        source = random.Random(33)
        heads = ["house mill 0", "house mill 0\n for a", "house mill 0\nlost 1", "house mill 0\npage /a",
                 "house mill 0\npage /a\n5 gone", ""]
        for head in heads:
            for line in LINES:
                for more in ("\n", "", "\nhouse b 1\n", "\n0 gone\n", "\npage /k\n0 gone\n"):
                    self.check(head + "\n" * bool(head) + line + more)
        for _ in range(2000):
            lines = [source.choice(heads)] + [source.choice(LINES) for _ in range(source.randint(0, 4))]
            self.check("\n".join(lines) + source.choice(("\n", "\n", "")))

    def test_what_ends_too_soon(self):
        for text, index in (("house mill 0\npage /a\n", 2), ("house mill 0\npage /a", 1),
                            ("house mill 0\npage /a\n5 gone", 2),
                            ("house mill 0", 0), ("house mill 0\n for a", 1), ("house mill 0\nlost 3", 1), (" ", 0),
                            ("x", 0),
                            ("house mill 0\npage /a\n5 gone\npage /b\n", 4), ("house mill 0\npage /a\nhouse b 0\n", 2)):
            self.assertEqual(told(text), ("wrong", index), text)

    def test_numerals(self):
        for word, right in (("0", True), ("1", True), ("9" * 12, True), ("1" + "0" * 12, False), ("00", False),
                            ("01", False),
                            ("", False), ("-1", False), ("+1", False), ("1 ", False), ("9" * 13, False),
                            ("0" * 12, False),
                            ("1" * 300, False), ("a", False)):
            for text, at in (("house a 0\npage /\n{} gone\n", 2), ("house a 0\nlost {}\n", 1)):
                self.assertEqual(told(text.format(word)), plain.read_world(text.format(word)))
                self.assertEqual(told(text.format(word))[0], "world" if right else "wrong", word)
                if not right:
                    self.assertEqual(told(text.format(word)), ("wrong", at))
        for word, right in (("0", True), ("999999", True), ("1000000", False), ("01", False), ("-1", False),
                            ("x", False)):
            self.assertEqual(told(f"house a 0\npage /\n3 page {word}\n")[0], "world" if right else "wrong")
        for word in ("0", "1", "2", "3", "4", "00", "03", "10", "x", "", "-1"):
            self.assertEqual(told(f"house a {word}\n"), ("world", (("a", (), int(word), (), ()),))
                             if word in ("0", "1", "2", "3") else ("wrong", 0))

    def test_wrong_lines_in_a_file(self):
        for lines, index in ((" for x\n most 7 in 3\n", 2), (" bar /\n", 1), (" for x\n for x\n", 2), (" x\n for\n", 1),
                             (" for x\n open 1\n bar /\n open 1\n lost 3\n", 4), (" for x\n\n", 2),
                             (" for x\nbar /\n", 2)):
            for rest in ("", "lost 3\n", "x\n", "page /a\n", " ", "house b 0\n"):
                self.assertEqual(told("house mill 0\n" + lines + rest), ("wrong", index), lines + rest)

    def test_files_of_too_many_signs(self):
        for many in (3999, 4000, 4001, 4400):
            for lines in (["for a", "#" * (many - 7)], ["for a"] + [""] * (many - 6), ["x" * (many - 1)]):
                self.assertEqual(sum(len(line) + 1 for line in lines), many)
                block = "house mill 0\n" + "".join(" " + line + "\n" for line in lines)
                first = many > 4000 or lines[0] != "for a"
                for rest in ("", "lost 3\n"):
                    self.assertEqual(told(block + rest)[0], "wrong" if first else "world")
                    self.assertEqual(told(block + rest), ("wrong", 1) if first else plain.read_world(block + rest))
                # A last line without a line feed is not counted, and wrong where it stands.
                for rest in ("x\n", " # more", " x", " ", "lost 1"):
                    self.assertEqual(told(block + rest), ("wrong", 1 if first else len(lines) + 1))
        # Each file may be as long, and what is wrong ahead of a file stands ahead of it.
        block = " for a\n " + "#" * 3993 + "\n"
        self.assertEqual(told("house a 0\n" + block + "house b 0\n" + block)[0], "world")
        self.assertEqual(told("house a 0\n" + block + "house b 0\n #\n" + block), ("wrong", 4))
        self.assertEqual(told("house a 0\nx\n" + block * 2), ("wrong", 1))
        self.assertEqual(len(filetexts.read_file("for a\n" + "#" * 3993 + "\n")), 1)

    def test_too_many(self):
        houses = "".join(f"house {name} 0\n" for name in "abcdef")
        pages = "house a 0\n" + "".join(f"page /{name}\n0 gone\n" for name in "abcdefghijkl")
        versions = "house a 0\npage /\n" + "".join(f"{at} gone\n" for at in range(6))
        lost = "house a 0\nlost " + " ".join(map(str, range(20)))
        for right, more in ((houses, "house g 0\n"), (pages, "page /m\n0 gone\n"), (versions, "6 gone\n")):
            self.assertEqual(told(right)[0], "world")
            self.assertEqual(told(right + more), ("wrong", right.count("\n")))
        self.assertEqual(told(lost + "\n")[0], "world")
        self.assertEqual(told(lost + " 20\n"), ("wrong", 1))

    def test_told_again(self):
        for text, index in (("house a 0\nhouse b 0\nhouse a 1\n", 2), ("house a 0\npage /\n0 gone\npage /\n1 gone\n",
                                                                       3),
                            ("house a 0\nlost 3\nlost 4\n", 2), ("house a 0\nlost 3 3\n", 1),
                            ("house a 0\nlost 4 3\n", 1),
                            ("house a 0\npage /\n0 gone\n0 gone\n", 3), ("house a 0\npage /\n4 gone\n3 gone\n", 3),
                            ("house a 0\npage /\n3 gone\nlost 3\n", 3), ("house a 0\nlost 1\n for a\n", 2),
                            ("house a 0\npage /\n3 gone\n for a\n", 3), ("lost 3\n", 0), ("page /a\n", 0),
                            (" for a\n", 0),
                            ("0 gone\n", 0), ("house a 0\n0 gone\n", 1), ("\n", 0), ("house a 0\n\n", 1)):
            self.assertEqual(told(text), ("wrong", index), text)
        same = "house a 0\npage /\n0 gone\nhouse b 0\npage /\n0 gone\n"
        self.assertEqual(worldtexts.print_world(worldtexts.read_world(same)), same)

    def test_no_strings(self):
        rows = [(value, InvalidLine, None) for value in any_values() + no_tuples() if not isinstance(value, str)]
        refusals(self, worldtexts.read_world, [("text", "house a 0\n")],
                 {"text": rows + [("x", InvalidLine, 0), ((), InvalidLine, None), ("house a 0\n\n", InvalidLine, 1)]})


if __name__ == "__main__":
    unittest.main()
