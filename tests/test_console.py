import random
import unittest

from gentlerounds.console import fresh_console, said, told_all
from gentlerounds.errors import InvalidLine
from gentlerounds.journals import journal_of, read_journal
from gentlerounds.logjudge import is_crawl, is_right
from gentlerounds.logs import read_log
from gentlerounds.setups import is_setup
from gentlerounds.worldtexts import print_world
from gentlerounds.worlds import is_world
from tests.helper import any_values, no_tuples, refusals
from tests.plainconsole import Console
from tests.samples import edits, some_address, some_world
from tests.setupsamples import JUST, OVER, PAIR, PRESS, some_setup
from tests.test_logjudge import WORLD

MILL = "world house mill 0 ; page /a ; 0 page 7 mill/b mill/no ; page /b ; 0 gone"
SLOW = "world house mill 1 ;  for * ;  bar /no ;  most 1 in 3 ; lost 2 ; page /a ; 0 page 7 mill/b mill/no mill/c"
PRESS_LINE = "setup most 1 ; house most 1 in 2 open 1 ; page 0 3 2 2 ; page 0 2 2"
NO = "not understood"


def fraction(pair):
    return str(pair[0]) if pair[1] == 1 else f"{pair[0]}/{pair[1]}"


def setup_line(setup):
    rows = [f"most {setup[2]}"]
    for limits, hours in setup[0]:
        rows.append(" ".join(["house"] + [f"most {most} in {wide}" for most, wide in limits] + ["open"]
                             + ["".join(map(str, hours))]))
    rows += [" ".join(["page", str(house)] + [fraction(one) for one in worths]) for house, worths in setup[1]]
    return "setup " + " ; ".join(rows)


def world_line(world):
    return ("world " + print_world(world)[:-1].replace("\n", " ; ")) if world else "world"


class TestByHand(unittest.TestCase):
    def talk(self, *pairs, console=None):
        """Say lines one by one, each with the answer that is told; return the console."""
        console = console or fresh_console()
        plain = Console()
        plain.state, plain.earlier = console[0], list(console[1])
        for line, answer in pairs:
            self.assertEqual(plain.say(line), answer, line)
            console, told = said(console, line)
            self.assertEqual(told, answer, line)
            self.assertEqual(console, (plain.state, tuple(plain.earlier)))
        return console

    def stays(self, console, *pairs):
        """Say lines that leave the console as it is."""
        for line, answer in pairs:
            self.assertEqual(said(console, line), (console, answer), line)
            self.talk((line, answer), console=console)

    def test_fresh(self):
        self.assertEqual(fresh_console(), (((), None, None, None), ()))
        words = ("rest", "sweep", "log", "journal", "waiting", "barred", "copies", "judge", "go 0", "go 400", "cut 0 0",
                 "cut 999999999999 999999999999")
        self.stays(fresh_console(), *[(word, "no crawl") for word in words], ("again 0", "no cut"),
                   ("best 0", "no set-up"),
                   ("best 12", "no set-up"), ("again 999999999999", "no cut"),
                   ("back", "nothing there"), ("world", "0 houses"))

    def test_worlds(self):
        self.stays(fresh_console(), ("world ", "not read in line 0"), ("world  ", "not read in line 0"),
                   ("world mill", "not read in line 0"), ("world house mill 0 ; page /a", "not read in line 2"),
                   ("world house mill 0 ;page /a ; 0 gone", "not read in line 0"), ("world  house mill 0",
                                                                                   "not read in line 0"),
                   ("world house mill 0 ; ", "not read in line 1"), ("world house mill 0 ;", "not read in line 0"),
                   ("world house mill 0 ;  for x ;  most 7 in 3 ; lost 1", "not read in line 2"),
                   ("world house mill 0 ; house mill 0", "not read in line 1"), ("World", NO), (" world", NO),
                   ("worlds", NO), ("world\n", NO))
        console = self.talk(("world house mill 0", "1 houses"), ("world house mill 0 ; house barn 3", "2 houses"),
                            ("world", "0 houses"), (MILL, "1 houses"))
        self.assertEqual(console[0][0][0][0], "mill")
        self.assertEqual(len(console[1]), 4)
        # A text that is not read leaves all as it is, one that is read leaves only the set-up.
        console = self.talk(("crawl ann 1 0 mill/a", "moment 0, 0 asks, 1 wait, 0 away"),
                            (PRESS_LINE, "rate 11/4, bound 3/4, 7 standings"), ("cut 0 0", "cut"), console=console)
        self.stays(console, ("world x", "not read in line 0"))
        console = self.talk(("world", "0 houses"), console=console)
        self.assertEqual(console[0], ((), None, None, PRESS))

    def test_crawls(self):
        console = self.talk((MILL, "1 houses"))
        for line in ("crawl", "crawl ", "crawl ann", "crawl ann 1", "crawl ann 0 0", "crawl ann 10 0", "crawl ann 01 0",
                     "crawl ann 1 4", "crawl ann 1 00", "crawl Ann 1 0", "crawl ann 1 0 ", "crawl ann 1 0 mill",
                     "crawl ann 1 0 mill/A", "crawl ann 1 0  mill/a", "crawl  ann 1 0", "crawl " + "a" * 13 + " 1 0",
                     "crawl * 1 0", "crawl ann 1 0 mill/" + "a" * 40, "crawl ann 1 -1", "crawl ann 1 0" + " mill/a" * 9,
                     "crawl ann 1 0 mill/a ; mill/b", " crawl ann 1 0", "crawl ann 1 0 /a", "crawls ann 1 0",
                     "crawl 1 0 ann"):
            self.stays(console, (line, NO))
        for more, wait in (("", 0), (" mill/a", 1), (" mill/a" * 8, 1), (" far/x mill/b mill/" + "a" * 39, 3)):
            for head in ("crawl ann 1 0", "crawl " + "z" * 12 + " 9 3"):
                rest = "" if wait else ", at rest"
                told = self.talk((head + more, f"moment 0, 0 asks, {wait} wait, 0 away{rest}"), console=console)
                self.assertEqual(told[0][1][0], console[0][0])
                self.assertIs(is_crawl(told[0][1]), True)

    def test_steps(self):
        console = self.talk((MILL, "1 houses"), ("crawl ann 1 0 mill/a", "moment 0, 0 asks, 1 wait, 0 away"))
        for line in ("go", "go ", "go  1", "go 01", "go 401", "go -1", "go 1 ", "go 1 1", "go a", "go 4000", "rest ",
                     "rest 1", "Rest", " rest", "sweep ", "sweep 1", "judge ", "log ", "go +1", "go 1.0", "go1"):
            self.stays(console, (line, NO))
        self.stays(console, ("go 0", "moment 0, 0 asks, 1 wait, 0 away"), ("sweep", "not at rest"), ("log", "nothing"),
                   ("journal", "nothing"), ("waiting", "mill/a"), ("barred", "nothing"), ("copies", "nothing"),
                   ("judge", "right"), ("again 0", "no cut"))
        done = self.talk(("go 1", "moment 1, 1 asks, 0 wait, 1 away"), ("waiting", "nothing"), ("log", "0 ask mill/a"),
                         ("journal", "0 0 ask mill/a 9048"), ("sweep", "not at rest"),
                         ("go 1", "moment 2, 2 asks, 1 wait, 1 away"), ("waiting", "mill/no"), ("copies", "mill/a 7 0"),
                         ("rest", "moment 4, 3 asks, 0 wait, 0 away, at rest"), ("judge", "right"),
                         ("go 400", "moment 404, 3 asks, 0 wait, 0 away, at rest"), console=console)
        self.stays(done, ("rest", "moment 404, 3 asks, 0 wait, 0 away, at rest"))
        swept = self.talk(("sweep", "moment 404, 0 asks, 1 wait, 0 away"), ("log", "nothing"),
                          ("rest", "moment 408, 3 asks, 0 wait, 0 away, at rest"), console=done)
        self.assertEqual(swept[0][1][1][4], ())
        slow = self.talk((SLOW, "1 houses"), ("crawl ann 1 1 mill/a far/b", "moment 0, 0 asks, 2 wait, 0 away"),
                         ("go 3", "moment 3, 2 asks, 2 wait, 0 away"), ("barred", "mill/no"),
                         ("waiting", "mill/b\nmill/c"), ("copies", "mill/a 7 0"),
                         ("rest", "moment 9, 4 asks, 0 wait, 0 away, at rest"),
                         ("sweep", "moment 9, 0 asks, 2 wait, 0 away"))
        self.assertEqual(slow[0][1][1][4], ((0, "mill"), (1, "far"), (3, "mill"), (6, "mill")))

    def test_cuts(self):
        console = self.talk((MILL, "1 houses"), ("crawl ann 1 0 mill/a", "moment 0, 0 asks, 1 wait, 0 away"),
                            ("rest", "moment 4, 3 asks, 0 wait, 0 away, at rest"))
        crawl = console[0][1]
        lines = journal_of(crawl).split("\n")
        for line in ("cut", "cut ", "cut 0", "cut 0 ", "cut  0 0", "cut 00 0", "cut 0 00", "cut 0 0 0", "cut a 0",
                     "cut -1 0",
                     "cut 0 0 ", "cut 0 1234567890123", "again", "again ", "again 01", "again 1 1", "again -1",
                     "again a",
                     "again 1234567890123"):
            self.stays(console, (line, NO))
        many = len(crawl[2])
        for rows, torn, right in ((0, 0, True), (0, 19, True), (0, 20, False), (many, 0, True), (many, 1, False),
                                  (many + 1, 0, False), (many - 1, len(lines[many - 1]), True),
                                  (many - 1, len(lines[many - 1]) + 1, False), (999999999999, 0, False)):
            if not right:
                self.stays(console, (f"cut {rows} {torn}", "not so"))
                continue
            text = "".join(line + "\n" for line in lines[:rows]) + lines[rows][:torn]
            told = self.talk((f"cut {rows} {torn}", "cut"), ("journal", text or "nothing"), console=console)
            self.assertEqual(told[0], (crawl[0], crawl, text, None))
            self.assertEqual(told[1][-1], console[0])
            self.stays(told, *[(word, "no crawl") for word in ("log", "go 1", "rest", "sweep", "waiting", "barred",
                                                               "copies",
                                                              "judge", "cut 0 0", "cut 99 99")])
        cut = self.talk(("cut 4 0", "cut"), console=console)
        self.assertEqual(read_journal(cut[0][2]), crawl[2][:4])
        self.stays(cut, ("again 1", "not now"), ("again 0", "not now"), ("again 100000000000", "not now"),
                   ("again 999999999999", "not now"), ("again 1234567890123", NO))
        self.talk(("again 2", "moment 2, 2 asks, 1 wait, 0 away"), ("again 2", "no cut"), ("judge", "right"),
                  ("go 1", "moment 3, 3 asks, 0 wait, 1 away"), console=cut)
        far = self.talk(("again 99999999999", "moment 99999999999, 2 asks, 1 wait, 0 away"), console=cut)
        self.assertEqual(far[0][2], None)
        # A crawl that was begun anew is not cut any more, and a world ends both.
        self.talk(("crawl ann 1 0", "moment 0, 0 asks, 0 wait, 0 away, at rest"), ("again 2", "no cut"), console=cut)
        self.talk((MILL, "1 houses"), ("again 2", "no cut"), ("journal", "no crawl"), console=cut)

    def test_setups(self):
        for text in ("", " ", "most 1", "most 1 ; house open 1", "most 1 ; page 0 1", "house open 1 ; page 0 1",
                     "most 0 ; house open 1 ; page 0 1", "most 4 ; house open 1 ; page 0 1",
                     "most 01 ; house open 1 ; page 0 1", "most 1 ; page 0 1 ; house open 1",
                     "most 1 ; house ; page 0 1", "most 1 ; house open ; page 0 1", "most 1 ; house open 0 ; page 0 1",
                     "most 1 ; house open 2 ; page 0 1", "most 1 ; house open 11111 ; page 0 1",
                     "most 1 ; house open 1 1 ; page 0 1", "most 1 ; house most 1 in 6 open 1 ; page 0 1",
                     "most 1 ; house most 7 in 5 open 1 ; page 0 1", "most 1 ; house most 1 in 5 ; page 0 1",
                     "most 1 ; house open 1 most 1 in 5 ; page 0 1", "most 1 ; house most 1 of 5 open 1 ; page 0 1",
                     "most 1 ; house most 1 in 5 most open 1 ; page 0 1", "most 1 ; house open 1 ; page 1 1",
                     "most 1 ; house open 1 ; page 0", "most 1 ; house open 1 ; page",
                     "most 1 ; house open 1 ; page 0 ",
                     "most 1 ; house open 1 ; page 0 1/1", "most 1 ; house open 1 ; page 0 2/4",
                     "most 1 ; house open 1 ; page 0 1/0", "most 1 ; house open 1 ; page 0 0/2",
                     "most 1 ; house open 1 ; page 0 1/", "most 1 ; house open 1 ; page 0 /2",
                     "most 1 ; house open 1 ; page 0 1/2/3", "most 1 ; house open 1 ; page 0 1/02",
                     "most 1 ; house open 1 ; page 0 01/2", "most 1 ; house open 1 ; page 0 -1",
                     "most 1 ; house open 1 ; page 0 1 2", "most 1 ; house open 1 ; page 0 1/3 1/2",
                     "most 1 ; house open 1 ; page 0 1 1 1 1 1", "most 1 ; house open 1 ; page 0  1",
                     "most 1 ; house open 1 ; page 0 1234567890123", "most 1 ; house open 1 ; page 0 1/1234567890123",
                     "most 1 ; house open 1;page 0 1", "most 1  ; house open 1 ; page 0 1",
                     " most 1 ; house open 1 ; page 0 1",
                     "most 1 ; house open 1 ; page 0 1 ; ", "most 1 ; house open 1 ; page 0 1 ;",
                     "most 1 ;  ; page 0 1",
                     "most 1 ; most 1 ; house open 1 ; page 0 1", "most 1 1 ; house open 1 ; page 0 1",
                     "most 1 ; house open 1 ; page 00 1", "most ; house open 1 ; page 0 1",
                     "most 1" + " ; house open 1" * 4 + " ; page 0 1", "most 1 ; house open 1" + " ; page 0 1" * 5,
                     "most 1 ; house" + " most 1 in 2" * 5 + " open 1 ; page 0 1", "most 1 ; pages 0 1 ; house open 1"):
            self.stays(fresh_console(), ("setup " + text, "not a set-up"))
        for line in ("setup", "Setup most 1", " setup most 1", "setups most 1", "best", "best ", "best 13", "best 01",
                     "best -1", "best 1 1", "best 1 ", "best  1", "best a", "best 100"):
            self.stays(fresh_console(), (line, NO))
        self.stays(fresh_console(), (setup_line(OVER), "too many"))
        console = self.talk((PRESS_LINE, "rate 11/4, bound 3/4, 7 standings"), ("best 0", "best 0"),
                            ("best 5", "best 14"),
                            (PRESS_LINE, "rate 11/4, bound 3/4, 7 standings"))
        self.assertEqual(console, (((), None, None, PRESS), (fresh_console()[0],)))
        self.stays(console, (setup_line(OVER), "too many"), ("setup x", "not a set-up"), ("best 12", "best 33"))
        self.talk((setup_line(PAIR), "rate 203/72, bound 179/72, 45 standings"), ("best 1", "best 17/4"),
                  ("setup most 1 ; house open 1 ; page 0 0", "rate 0, bound 0, 2 standings"),
                  ("setup most 1 ; house open 1 ; page 0 999999999998/7", "rate 999999999998/7, bound 0, 2 standings"),
                  ("setup most 3 ; house most 6 in 5 most 1 in 1 most 6 in 1 most 1 in 1 open 0001"
                   + " ; page 0 1/2" * 4,
                   "rate 1/8, bound 0, 11 standings"))
        self.assertEqual(said(fresh_console(), setup_line(JUST))[1].split(", ")[2], "400 standings")

    def test_back(self):
        console = fresh_console()
        states = [console[0]]
        for many in range(1, 25):
            world = "world " + " ; ".join(f"house {'a' * at} 0" for at in range(1, many % 6 + 2))
            console, _ = said(console, world)
            console, _ = said(console, "log")
            self.assertEqual(said(console, world)[0], console)
            states.append(console[0])
            self.assertEqual(console[1], tuple(states[-21:-1]))
        for many in range(1, 21):
            console, answer = said(console, "back")
            self.assertEqual(answer, "back")
            self.assertEqual(console, (states[-1 - many], tuple(states[4:-1 - many])))
        self.assertEqual(said(console, "back"), (console, "nothing there"))
        self.assertEqual(console[1], ())
        console, _ = said(console, "world")
        self.assertEqual(said(console, "back")[0], (states[4], ()))
        for line in ("back ", "back 1", " back", "Back"):
            self.assertEqual(said(console, line), (console, NO))

    def test_back_of_all_parts(self):
        console = self.talk((MILL, "1 houses"), ("crawl ann 1 0 mill/a", "moment 0, 0 asks, 1 wait, 0 away"),
                            ("go 1", "moment 1, 1 asks, 0 wait, 1 away"), ("cut 0 5", "cut"),
                            ("again 1", "moment 1, 0 asks, 1 wait, 0 away"), ("back", "back"), ("journal", "0 0 a"),
                            ("again 9", "moment 9, 0 asks, 1 wait, 0 away"), ("back", "back"), ("back", "back"),
                            ("log", "0 ask mill/a"), (PRESS_LINE, "rate 11/4, bound 3/4, 7 standings"),
                            ("back", "back"),
                            ("best 1", "no set-up"), ("back", "back"), ("back", "back"), ("go 1", "no crawl"),
                            ("back", "back"), ("back", "nothing there"))
        self.assertEqual(console, fresh_console())

    def test_other_lines(self):
        console = self.talk((MILL, "1 houses"), ("crawl ann 1 0 mill/a", "moment 0, 0 asks, 1 wait, 0 away"))
        for line in ("", " ", "\n", "x", "help", "go\n1", "judge\n", "rest\n", "log log", "crawl", "\u00e9", "barred ",
                     "copies 1", "waiting x", "journal ", "JUDGE", "judge 1", "go 1\n", "best", "again", "0",
                     "not understood"):
            self.stays(console, (line, NO))


class TestAgainstThePlainConsole(unittest.TestCase):
    def some_line(self, source, console):
        """A line that may well be understood, with words that are right, at the edges and wrong."""
        _, crawl, journal, _ = console[0]
        last = crawl[3] if crawl else 3
        rows = len(crawl[2]) if crawl else 2
        kind = source.choice(("crawl",) * 4 + ("go", "cut", "again") * 4 + ("rest",) * 3 + ("sweep", "back") * 2
                             + ("log", "journal", "waiting", "barred", "copies", "judge", "world", "setup", "best"))
        if kind == "world":
            world = some_world(source)
            return source.choice((world_line(world), world_line(WORLD)))
        if kind == "crawl":
            seeds = ["".join(some_address(source)) for _ in range(source.choice((0, 1, 3, 8, 8, 9)))]
            return " ".join(["crawl", source.choice(("ann", "ann", "anna", "bob")),
                             str(source.choice((1, 1, 2, 9, 10))),
                             str(source.choice((0, 1, 3, 4)))] + seeds)
        if kind == "setup":
            return setup_line(source.choice((PRESS, some_setup(source, 25))))
        numbers = {"go": source.choice((0, 1, 1, 2, 3, 5, 40, 401)), "again": last + source.choice((-3, 0, 1, 9)),
                   "best": source.choice((0, 1, 2, 3, 13))}
        if kind in numbers:
            return f"{kind} {numbers[kind]}"
        if kind == "cut":
            behind = source.choice((rows, rows + 1, source.randint(0, rows)))
            return f"cut {behind} {source.choice((0, 0, 1, 7, 30, 60))}"
        return kind

    def changed(self, source, line):
        """A line next to a line."""
        at = source.randrange(len(line) + 1)
        words = line.split(" ")
        place = source.randrange(len(words))
        return source.choice((line[:at] + " " + line[at:], line + " ", " " + line, line[:at] + line[at + 1:],
                              " ".join(words[:place] + words[place + 1:]), " ".join(words + [words[place]]),
                              " ".join(words[:place] + ["0" + words[place]] + words[place + 1:]),
                              line[:at] + source.choice("0 1a/;-\n") + line[at:], line.replace(" ", "  ", 1)))

    def test_any_lines(self):
        source = random.Random(150)
        seen = {}
        for _ in range(120):
            console, plain = fresh_console(), Console()
            for _ in range(60):
                line = self.some_line(source, console)
                line = self.changed(source, line) if source.random() < 0.12 else line
                answer = plain.say(line)
                further, told = said(console, line)
                self.assertEqual(told, answer, line)
                self.assertEqual(further, (plain.state, tuple(plain.earlier)), line)
                self.assertEqual(said(console, line), (further, told))
                console = further
                self.check_state(console)
                key = "not read" if answer.startswith("not read") else answer.split(" ")[0] if answer[0] != " " else ""
                seen[key] = seen.get(key, 0) + 1
        for word in ("not", "no", "moment", "right", "nothing", "cut", "back", "rate", "best", "not read"):
            self.assertGreater(seen.get(word, 0), 8, seen)

    def check_state(self, console):
        world, crawl, journal, setup = console[0]
        self.assertIs(is_world(world), True)
        self.assertTrue(setup is None or is_setup(setup))
        self.assertLessEqual(len(console[1]), 20)
        if crawl is None:
            self.assertIsNone(journal)
        else:
            self.assertEqual(crawl[0], world)
            self.assertIs(is_crawl(crawl), True)
            self.assertIs(is_right(world, crawl[1], crawl[2]), True)
            if journal is None:
                self.assertEqual(said(console, "judge"), (console, "right"))
                text = said(console, "log")[1]
                self.assertEqual(read_log("" if text == "nothing" else text + "\n"), crawl[2])

    def test_one_fault_in_a_world(self):
        source = random.Random(151)
        seen = {True: 0, False: 0}
        for at in range(60):
            text = print_world(some_world(source) or WORLD)[:-1]
            lines = ["gone", "page /a", "house inn 2", " for x", "0 gone", "lost 1", "", " ", "  ", " open 1",
                     "9 page 1 a/a"]
            for changed in edits(source, text, lines, "/*a0 1\n#;"):
                line = "world " + changed.replace("\n", " ; ")
                plain = Console()
                answer = plain.say(line)
                console, told = said(fresh_console(), line)
                self.assertEqual(told, answer, line)
                self.assertEqual(console, (plain.state, tuple(plain.earlier)))
                seen[answer.endswith("houses")] += 1
        self.assertGreater(min(seen.values()), 50)

    def test_one_fault_in_a_setup(self):
        source = random.Random(152)
        seen = {}
        for _ in range(150):
            setup = some_setup(source, 12)
            text = setup_line(setup)[6:].replace(" ; ", "\n")
            lines = ["most 1", "house open 1", "page 0 1", "page 1 1/2", "", "house most 1 in 2 open 10", "most 2 in 2"]
            for changed in edits(source, text, lines, "/0 123\nm"):
                line = "setup " + changed.replace("\n", " ; ")
                plain = Console()
                answer = plain.say(line)
                console, told = said(fresh_console(), line)
                self.assertEqual(told, answer, line)
                self.assertEqual(console, (plain.state, tuple(plain.earlier)))
                seen[answer[:4]] = seen.get(answer[:4], 0) + 1
        self.assertGreater(min(seen["rate"], seen["not "]), 100, seen)

    def test_told_all(self):
        source = random.Random(153)
        for _ in range(10):
            lines, console, answers = [], fresh_console(), []
            for _ in range(100):
                lines.append(self.some_line(source, console))
                console, answer = said(console, lines[-1])
                answers.append(answer)
            self.assertEqual(told_all(fresh_console(), tuple(lines)), (console, tuple(answers)))
            self.assertEqual(told_all(told_all(fresh_console(), tuple(lines[:40]))[0], tuple(lines[40:]))[0], console)


class TestErrors(unittest.TestCase):
    def test_errors(self):
        values = [value for value in no_tuples() + any_values() if not isinstance(value, str)]
        refusals(self, said, [("console", fresh_console()), ("line", "log")],
                 {"line": [(value, InvalidLine, None) for value in values]})
        wrong = [(value, InvalidLine, None) for value in no_tuples() + [("log",) * 101, (None,) * 101]]
        wrong += [((value,), InvalidLine, 0) for value in values] + [(("log", "x", value, None), InvalidLine, 2)
                                                                     for value in values]
        refusals(self, told_all, [("console", fresh_console()), ("lines", ("log", "world"))], {"lines": wrong})
        self.assertEqual(told_all(fresh_console(), ()), (fresh_console(), ()))
        self.assertEqual(told_all(fresh_console(), ("x",) * 100)[1], (NO,) * 100)
        # Nothing is said before all lines are looked at.
        with self.assertRaises(InvalidLine) as caught:
            told_all(fresh_console(), ("world",) * 99 + (1,))
        self.assertEqual(caught.exception.index, 99)


if __name__ == "__main__":
    unittest.main()
