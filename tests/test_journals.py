import random
import unittest

from gentlerounds import journals
from gentlerounds.crawls import crawl_of, crawled, next_sweep, rested, rests
from gentlerounds.errors import (InvalidDeeds, InvalidJournal, InvalidLine, InvalidLog, InvalidMoment, InvalidNumber,
                                 NotNow)
from gentlerounds.frontier import asks_left, barred, met, stands, waiting
from gentlerounds.logjudge import is_crawl, is_right
from tests import plain
from tests.helper import Echo, any_values, given, indexed, no_numbers, no_tuples, refusals, slow_polite
from tests.samples import (LAST, MILL, NAMES, no_addresses, no_moments, put, some_crawl, some_task,
                           some_world)
from tests.test_logjudge import A, B, C, LOG, TASK, WORLD
from tests.test_logs import no_rows

ASK, CUT, GONE = ("ask",), ("cut",), ("gone",)
BEGIN = 99999999999
CRAWL = (WORLD, TASK, LOG, 4)


def seal(text):
    """The sum of the codes, that of each sign as often as its place tells."""
    total = 0
    for at in range(len(text)):
        total += sum(ord(sign) for sign in text[at:])
    return total % 999983


def line(row):
    moment, (name, path), event = row
    words = [moment, event[0], name + path]
    if event[0] == "page":
        words += [event[1]] + [link[0] + link[1] for link in event[2]]
    if event[0] in ("moved", "same"):
        words.append(event[1][0] + event[1][1])
    return " ".join(str(word) for word in words)


def noted(log):
    """The lines of the journal of a log."""
    ahead = [f"{index} {line(row)}" for index, row in enumerate(log)]
    return [f"{text} {seal(text)}\n" for text in ahead]


def cut_anywhere(source, crawl):
    """The journal of a crawl, cut at any sign."""
    text = journals.journal_of(crawl)
    return text[:source.randint(0, len(text))]


def last_moment(task, log):
    return max([moment for moment, _ in task[4]] + [row[0] for row in log] + [0])


class TestSeals(unittest.TestCase):
    def test_by_hand(self):
        for text, told in (("", 0), ("a", 97), ("ab", 97 + 2 * 98), ("ba", 98 + 2 * 97), ("\n", 10), (" " * 3, 192),
                           ("\u20ac", 8364), ("\U0010ffff", 1114111 - 999983), ("0 0 ask mill/a", 9048)):
            self.assertEqual(journals.seal_of(text), told)

    def test_any_strings(self):
        source = random.Random(110)
        for _ in range(200):
            text = "".join(chr(source.choice((source.randint(0, 127), source.randint(0, 0xd7ff))))
                           for _ in range(source.randint(0, 300)))
            self.assertEqual(journals.seal_of(text), seal(text))

    def test_errors(self):
        wrong = [(value, InvalidLine, None) for value in no_tuples() + any_values() if not isinstance(value, str)]
        refusals(self, journals.seal_of, [("text", "a")], {"text": wrong})


class TestTexts(unittest.TestCase):
    def test_there_and_back(self):
        source = random.Random(111)
        for _ in range(150):
            crawl = some_crawl(source)
            log = crawl[2]
            text = journals.journal_of(crawl)
            self.assertEqual(text, "".join(noted(log)))
            self.assertEqual(journals.print_journal(log), text)
            self.assertEqual(journals.read_journal(text), log)
        self.assertEqual(journals.read_journal(""), ())
        self.assertEqual(journals.print_journal(()), "")

    def test_logs_that_are_not_right(self):
        for log in (LOG[::-1], LOG[:2] * 3, ((LAST, A, CUT), (0, A, ("page", 999999, (MILL,) * 6)))):
            self.assertEqual(journals.print_journal(log), "".join(noted(log)))
            self.assertEqual(journals.read_journal(journals.print_journal(log)), log)

    def test_what_is_torn_is_left_out(self):
        lines = noted(LOG)
        for many in range(len(lines) + 1):
            ahead = "".join(lines[:many])
            for torn in ["x", "0", " ", "\r", "0 0 ask mill/a"] + [row[:at] for row in lines
                                                                   for at in (1, 9, len(row) - 1)]:
                self.assertEqual(journals.read_journal(ahead + torn), LOG[:many])

    def test_one_sign_changed(self):
        text = journals.print_journal(LOG)
        source = random.Random(112)
        signs = "\n 09az/-._#~$*A\r\t\u0660\u00e9" + "".join(chr(code) for code in range(32, 127))
        at_line = 0
        for at, sign in enumerate(text[:-1]):
            for other in {"\n", " ", "0", *source.sample(signs, 12)} - {sign}:
                changed = text[:at] + other + text[at + 1:]
                with self.assertRaises(InvalidJournal) as caught:
                    journals.read_journal(changed)
                self.assertEqual(caught.exception.index, at_line, (changed, at))
            at_line += sign == "\n"
        # Without the last line feed the last line is torn, with another sign there, too.
        self.assertEqual(journals.read_journal(text[:-1] + "x"), LOG[:-1])

    def test_lines_changed(self):
        lines = noted(LOG)

        def broken(rows, index):
            with self.assertRaises(InvalidJournal) as caught:
                journals.read_journal("".join(rows))
            self.assertEqual(caught.exception.index, index)

        for at in range(len(lines)):
            if at + 1 < len(lines):
                broken(lines[:at] + lines[at + 1:], at)
                broken(lines[:at] + [lines[at + 1], lines[at]] + lines[at + 2:], at)
            broken(lines[:at + 1] + lines[at:], at + 1)
            broken(lines[:at] + ["\n"] + lines[at:], at)
            broken(lines[:at] + [" " + lines[at]] + lines[at + 1:], at)
            broken(lines[:at] + [lines[at].replace("\n", " \n")] + lines[at + 1:], at)
            broken(lines[:at] + [lines[at].replace("\n", "\r\n")] + lines[at + 1:], at)
            for text in (f"{at + 1} {line(LOG[at])}", f"0{at} {line(LOG[at])}", f"-{at} {line(LOG[at])}",
                         f"{at}  {line(LOG[at])}", f"{at} {line(LOG[at])} ", line(LOG[at]), f"{at} ", f"{at}",
                         f"{at} 0 ask mill", f"{at} 01 ask mill/a", f"{at} 0 asked mill/a", ""):
                # The seal is right here, but the line is none of a row with this index.
                broken(lines[:at] + [f"{text} {seal(text)}\n"] + lines[at + 1:], at)
            text = f"{at} {line(LOG[at])}"
            for other in (seal(text) + 1, seal(text) + 999983, f"0{seal(text)}", "", "x", f"{seal(text)} 0", -1):
                broken(lines[:at] + [f"{text} {other}\n"] + lines[at + 1:], at)

    def test_errors(self):
        wrong = [(value, InvalidJournal, None) for value in no_tuples() + any_values() if not isinstance(value, str)]
        refusals(self, journals.read_journal, [("text", "")], {"text": wrong})
        rows = [((bad,), 0) for bad in any_values() + no_rows()] + [(LOG[:2] + (bad, None), 2) for bad in no_rows()]
        for call in (journals.print_journal, journals.deeds_of):
            refusals(self, call, [("log", LOG)], {"log": indexed(InvalidLog, rows)})
        refusals(self, journals.journal_of, [("crawl", CRAWL)], {})


class TestCut(unittest.TestCase):
    def test_each_place(self):
        lines = noted(LOG)
        for many in range(len(lines) + 1):
            ahead = "".join(lines[:many])
            more = lines[many] if many < len(lines) else "x"
            for torn in range(len(more)):
                text = journals.cut(CRAWL, many, torn)
                self.assertEqual(text, ahead + more[:torn])
                self.assertEqual(journals.read_journal(text), LOG[:many])
            for torn in (len(more), len(more) + 1, 10 ** 9):
                with self.assertRaises(InvalidNumber) as caught:
                    journals.cut(CRAWL, many, torn)
                self.assertEqual(caught.exception.given, torn)
        self.assertEqual(journals.cut(put(CRAWL, 2, ()), 0, 0), "")

    def test_errors(self):
        many = len(LOG)
        longest = len(noted(LOG)[2]) - 1
        wrong = {"rows": given(InvalidNumber, no_numbers(0, many)), "torn": given(InvalidNumber,
                                                                                  no_numbers(0, longest))}
        refusals(self, journals.cut, [("crawl", CRAWL), ("rows", 2), ("torn", longest)], wrong)
        wrong["torn"] = given(InvalidNumber, no_numbers(0, 0))
        refusals(self, journals.cut, [("crawl", CRAWL), ("rows", many), ("torn", 0)], wrong)


class TestDeeds(unittest.TestCase):
    def plain_deeds(self, log):
        deeds = []
        for text, (moment, address, event) in zip(noted(log), log):
            deeds.append(("write", text))
            if event == ASK:
                deeds.append(("ask", moment, address))
        return tuple(deeds)

    def test_by_hand(self):
        lines = noted(LOG)
        self.assertEqual(journals.deeds_of(LOG),
                         (("write", lines[0]), ("ask", 0, A), ("write", lines[1]), ("write", lines[2]), ("ask", 1, B),
                          ("write", lines[3]), ("ask", 1, C), ("write", lines[4]), ("write", lines[5])))
        self.assertEqual(journals.deeds_of(()), ())
        self.assertEqual(journals.behind((), 0), ("", ()))
        self.assertEqual(journals.behind((("write", ""), ("write", "")), 1), ("", ()))
        self.assertEqual(journals.behind((("ask", 3, A), ("write", "x\n"), ("ask", 2, B)), 2, 0), ("x\n", ((3, A),)))
        self.assertEqual(journals.behind((("ask", 3, A), ("write", "xy"), ("ask", 2, B)), 1, torn=1), ("x", ((3, A),)))

    def test_each_cut(self):
        source = random.Random(113)
        for log in [LOG] + [some_crawl(source, 20)[2] for _ in range(12)]:
            deeds = journals.deeds_of(log)
            self.assertEqual(deeds, self.plain_deeds(log))
            for many in range(len(deeds) + 1):
                more = deeds[many][1] if many < len(deeds) and deeds[many][0] == "write" else "x"
                for torn in range(len(more)):
                    text, asks = journals.behind(deeds, many, torn)
                    self.assertEqual(text, "".join(one[1] for one in deeds[:many] if one[0] == "write") + more[:torn])
                    self.assertEqual(asks, tuple(one[1:] for one in deeds[:many] if one[0] == "ask"))
                    rows = journals.read_journal(text)
                    self.assertEqual(rows, log[:len(rows)])
                    told = tuple(row[:2] for row in rows if row[2] == ASK)
                    self.assertEqual(told[:len(asks)], asks)
                    self.assertLessEqual(len(told), len(asks) + 1)

    def test_errors(self):
        deeds = (("write", "abc"), ("ask", 5, A), ("write", ""), ("ask", 0, B), ("write", "x"))
        bad = any_values() + [("write",), ("write", "a", "b"), ("write", b"a"), ("write", None), ("ask",), ("ask", 1),
                              ("ask", 1, A, A), ("Ask", 1, A), ("ask", A, 1), ["write", "a"], (b"write", "a"),
                              ("ask", "a"),
                              ("write", 1, A), ("writes", "a"), (Echo(), "a"), (Echo(), 1, A)]
        bad += [("ask", value, A) for value in no_moments()] + [("ask", 1, value) for value in no_addresses()]
        bad += [("write", value) for value in no_tuples() if not isinstance(value, str)]
        rows = [((value,), 0) for value in bad] + [(deeds[:2] + (value, None), 2) for value in bad]
        wrong = {"deeds": indexed(InvalidDeeds, rows), "many": given(InvalidNumber, no_numbers(0, 5)),
                 "torn": given(InvalidNumber, no_numbers(0, 2))}
        refusals(self, journals.behind, [("deeds", deeds), ("many", 0), ("torn", 2)], wrong)
        for many in (1, 2, 3, 4, 5):
            # The next deed is an ask, a write of nothing or of one sign, or there is none.
            wrong["torn"] = given(InvalidNumber, no_numbers(0, 0))
            refusals(self, journals.behind, [("deeds", deeds), ("many", many), ("torn", 0)], {"torn": wrong["torn"]})
        self.assertEqual(journals.behind(deeds, 5), ("abcx", ((5, A), (0, B))))
        # Behind the ask that comes next a line would be written, but not yet.
        refusals(self, journals.behind, [("deeds", journals.deeds_of(LOG)), ("many", 1), ("torn", 0)],
                 {"torn": wrong["torn"]})
        self.assertEqual(journals.behind((("ask", LAST, A),), 1), ("", ((LAST, A),)))


class TestAgain(unittest.TestCase):
    def test_by_hand(self):
        begun = put(CRAWL, 2, ())
        for many, cuts in ((0, ()), (1, (A,)), (2, ()), (3, (B,)), (4, (B, C)), (5, (C,)), (6, ())):
            for moment in (LOG[many - 1][0] if many else 0, 5, BEGIN):
                crawl = journals.again(begun, journals.cut(CRAWL, many, 0), moment)
                log = LOG[:many] + tuple((moment, address, CUT) for address in cuts)
                self.assertEqual(crawl, (WORLD, TASK, log, moment))
                self.assertIs(is_crawl(crawl), True)
        # A cut amid the rows of a cut: the others follow at the moment of the second one.
        twice = LOG[:4] + ((2, B, CUT),)
        self.assertEqual(journals.again(CRAWL, journals.print_journal(twice), 7)[2], twice + ((7, C, CUT),))

    def test_whatever_crawl_of_the_world_and_the_task(self):
        source = random.Random(114)
        for _ in range(60):
            crawl = some_crawl(source)
            text = cut_anywhere(source, crawl)
            moment = last_moment(crawl[1], crawl[2]) + source.randint(0, 5)
            told = journals.again(crawl, text, moment)
            others = [put(put(crawl, 2, ()), 3, 0), rested(crawl), put(crawl, 3, LAST), told, rested(told)]
            for other in others:
                self.assertEqual(journals.again(other, text, moment), told)

    def test_twice_is_as_good_as_once(self):
        source = random.Random(115)
        for _ in range(100):
            crawl = some_crawl(source)
            moment = last_moment(crawl[1], crawl[2]) + source.randint(0, 9)
            once = journals.again(crawl, cut_anywhere(source, crawl), moment)
            self.assertEqual(journals.again(once, journals.journal_of(once), moment), once)
            self.assertEqual(journals.again(crawl, journals.journal_of(once), moment), once)
            later = journals.again(crawl, journals.journal_of(once), moment + 3)
            self.assertEqual(later, put(once, 3, moment + 3))

    def check_crawl(self, crawl, times_cut):
        """Check what the document promises of a crawl that was cut so often, and that rests."""
        world, task, log, moment = crawl
        self.assertIs(is_crawl(crawl), True)
        self.assertIs(is_right(world, task, log), True)
        self.assertIs(rests(crawl), True)
        for name in NAMES + ("far",):
            # By counting in all windows, the earlier asks with them.
            self.assertIs(slow_polite(plain.group(world, task[0], name)[1], plain.asks_of(task, log, name)), True)
        asked = [address for _, address, event in log if event == ASK]
        for address in met(crawl):
            self.assertEqual(address in asked, address not in barred(crawl))
            lost, cuts = [plain.count(log, address, [word]) for word in ("lost", "cut")]
            self.assertLessEqual(cuts, times_cut)
            self.assertLessEqual(asked.count(address), 1 + lost + cuts)
            self.assertIn(stands(crawl, address), ("answered", "given up", "barred"))

    def test_cut_and_taken_up_many_times(self):
        source = random.Random(116)
        seen = 0
        for _ in range(150):
            crawl = some_crawl(source)
            task, times = crawl[1], source.choice((1, 1, 2, 5))
            for _ in range(times):
                crawl = source.choice((rested, lambda one: crawled(one, source.randint(0, 15)), lambda one: one))(crawl)
                text = cut_anywhere(source, crawl)
                last = last_moment(task, journals.read_journal(text))
                crawl = journals.again(crawl, text, last + source.choice((0, 0, 1, 9)))
                seen += crawl[2] != () and crawl[2][-1][2] == CUT
                self.assertIs(is_crawl(crawl), True)
            left, begun = asks_left(crawl), crawl[3]
            crawl = rested(crawl)
            # The asks of the log that no steps made may be cut there, too.
            self.check_crawl(crawl, times + max([plain.count(crawl[2], one, ["cut"]) for one in met(crawl)] + [0]))
            self.assertLessEqual(crawl[3], begun + 26 * left + 5)
        self.assertGreater(seen, 60)

    def test_crawls_made_by_steps(self):
        source = random.Random(117)
        for _ in range(120):
            world = some_world(source)
            crawler, seeds, most, times, past = some_task(source, world)
            crawl = crawl_of(world, crawler, seeds, most=most, times=times, past=past,
                             moment=past[-1][0] if past else 0)
            cuts = source.randint(1, 4)
            for _ in range(cuts):
                text = cut_anywhere(source, crawled(crawl, source.randint(0, 30)))
                crawl = journals.again(crawl, text, last_moment(crawl[1], journals.read_journal(text)))
            crawl = rested(crawl)
            self.check_crawl(crawl, cuts)
            self.check_order(crawl)
            sweep = next_sweep(crawl)
            self.assertIs(is_crawl(sweep), True)
            again = rested(journals.again(sweep, cut_anywhere(source, rested(sweep)), crawl[3] + 40))
            asks = [plain.asks_of(one[1], one[2], name) for one in (crawl, again) for name in NAMES]
            self.assertTrue(asks)
            for name in NAMES + ("far",):
                both = plain.asks_of(crawl[1], crawl[2], name) + plain.asks_of(put(again[1], 4, ()), again[2], name)
                self.assertIs(slow_polite(plain.group(world, crawler, name)[1], both), True)

    def check_order(self, crawl):
        """The first asks for the addresses of a house are made in the order in which these were met."""
        firsts = list(dict.fromkeys(address for _, address, event in crawl[2] if event == ASK))
        for name in {house for house, _ in firsts}:
            of_house = [address for address in met(crawl) if address[0] == name and address in firsts]
            self.assertEqual([address for address in firsts if address[0] == name], of_house)

    def test_nothing_is_lost(self):
        # Each page has one version and nothing is lost: the same addresses are met, cut or not.
        source = random.Random(118)
        for _ in range(100):
            world = some_world(source, still=True)
            _, seeds, most, times, _ = some_task(source, world)
            crawl = crawl_of(world, "ann", seeds, most=most, times=times)
            whole = rested(crawl)
            for _ in range(3):
                crawl = journals.again(crawl, cut_anywhere(source, rested(crawl)), crawl[3] + 99 * source.randint(1, 9))
            self.assertEqual(set(met(rested(crawl))), set(met(whole)))
            self.assertEqual({one: stands(crawl, one) for one in met(whole)} if rests(crawl) else {},
                             {one: stands(whole, one) for one in met(whole)} if rests(crawl) else {})

    def test_at_the_last_moment(self):
        begun = crawl_of(WORLD, "ann", (A,), past=((3, "far"), (7, "mill")), moment=7)
        for moment in (0, 6):
            self.assertRaises(NotNow, journals.again, begun, "", moment)
        self.assertEqual(journals.again(begun, "", 7), begun)
        self.assertEqual(journals.again(begun, "", 9), put(begun, 3, 9))
        self.assertEqual(waiting(journals.again(begun, "", 9)), (A,))
        for many in range(1, len(LOG) + 1):
            text = journals.cut(CRAWL, many, 0)
            if LOG[many - 1][0]:
                self.assertRaises(NotNow, journals.again, CRAWL, text, LOG[many - 1][0] - 1)
            self.assertEqual(journals.again(CRAWL, text, LOG[many - 1][0])[3], LOG[many - 1][0])
        far = ((0, A, ASK), (LAST, A, CUT))
        self.assertRaises(NotNow, journals.again, CRAWL, journals.print_journal(far), BEGIN)

    def test_errors(self):
        text = journals.journal_of(CRAWL)
        lines = noted(LOG)
        no_texts = [value for value in no_tuples() + any_values() if not isinstance(value, str)]
        texts = [(value, None) for value in no_texts] + [("\n", 0), (lines[1], 0), (lines[0] * 2, 1), ("x\n" + text, 0),
                                                         (text + "x\n", 6), (text.replace("gone", "lost"), 4)]
        wrong = {"text": [(value, InvalidJournal, index) for value, index in texts],
                 "moment": given(InvalidMoment, no_numbers(0, BEGIN) + [LAST])}
        unmet = journals.print_journal(LOG[:2] + ((1, ("far", "/q"), ASK), (0, A, GONE)))
        last = [({"text": unmet}, InvalidLog, 2), ({"text": unmet, "moment": 0}, InvalidLog, 2),
                ({"moment": 3}, NotNow, None),
                ({"text": journals.print_journal(LOG[1:])}, InvalidLog, 0), ({"moment": 0}, NotNow, None)]
        refusals(self, journals.again, [("crawl", CRAWL), ("text", text), ("moment", 4)], wrong, last=last)
        self.assertEqual(journals.again(CRAWL, text, BEGIN)[3], BEGIN)


if __name__ == "__main__":
    unittest.main()
