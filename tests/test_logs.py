import random
import unittest

from gentlerounds import logs
from gentlerounds.errors import InvalidLine, InvalidLog, InvalidRow
from tests import plain
from tests.helper import Echo, any_values, given, no_tuples, refusals
from tests.samples import (ANSWERS, BARN, LAST, LONGEST, MILL, edits, indexed_wrong, no_addresses, no_answers,
                           no_moments, put,
                           some_answer, some_address)

EVENTS = ANSWERS + [("ask",), ("lost",), ("cut",)]
ROW = (7, MILL, ("page", 3, (BARN, MILL)))
LINES = ["0 ask mill/a", "1 page mill/a 7 mill/b", "1 page mill/a 7", "1 page mill/a", "1 moved mill/a barn/x",
         "1 moved mill/a",
         "1 same mill/a barn/x mill/a", "1 gone mill/a", "1 gone mill/a barn/x", "1 lost mill/a", "1 cut mill/a",
         "1 cut mill/a 0",
         "01 ask mill/a", "1000000000000 ask mill/a", "999999999999 ask mill/a", "ask mill/a", "1 mill/a ask", "", " ",
         "1 ask mill", "1 ASK mill/a", "1  ask mill/a", " 1 ask mill/a", "1 ask mill/a ", "1 page mill/a 07",
         "-1 ask mill/a",
         "1 page mill/a 1000000", "1 page mill/a 1" + " a/b" * 6, "1 page mill/a 1" + " a/b" * 7, "1 stay mill/a",
         "1 ask /a",
         "1 page a/" + "b" * 40 + " 1", "1 ask " + "a" * 13 + "/b", "1", "1 ask", "1 page mill/a x", "# 1 ask mill/a"]
SIGNS = " \n0179abcmilkpgost/-"


def no_rows():
    """Values that are no rows."""
    rows = [put(ROW, 0, bad) for bad in no_moments()] + [put(ROW, 1, bad) for bad in no_addresses()]
    rows += [put(ROW, 2, bad) for bad in no_answers() if bad not in EVENTS]
    rows += [put(ROW, 2, bad) for bad in [("ask", MILL), ("lost", ()), ("cut", 1), "ask", ["ask"], ("Ask",), ("asked",),
                                          Echo(), (Echo(),), (b"ask",), (("ask",),), (), ("ask", "ask"), None]]
    return rows + any_values() + [ROW[:2], ROW + ((),), list(ROW), (), ROW[::-1], "7 ask mill/a", (ROW,), (ROW,) * 3]


def some_row(source):
    event = source.choice([("ask",), ("lost",), ("cut",), some_answer(source), some_answer(source)])
    return source.choice((0, 5, 10, source.randint(0, LAST))), some_address(source), event


def told(text):
    """What the program tells of a text, as the plain reader tells it."""
    try:
        return "log", logs.read_log(text)
    except InvalidLine as wrong:
        return "wrong", wrong.index


class TestRows(unittest.TestCase):
    def test_right_ones(self):
        for event in EVENTS:
            for moment in (0, 1, LAST):
                for address in (MILL, LONGEST):
                    row = (moment, address, event)
                    self.assertIs(logs.is_row(row), True)
                    self.assertEqual(logs.read_row(logs.row_line(row)), row)
                    self.assertEqual(plain.row(logs.row_line(row)), row)

    def test_wrong_ones(self):
        for value in no_rows():
            self.assertIs(logs.is_row(value), False, repr(value))

    def test_lines_by_hand(self):
        for row, line in (((0, MILL, ("ask",)), "0 ask mill/a"), ((LAST, MILL, ("lost",)), "999999999999 lost mill/a"),
                          ((3, MILL, ("cut",)), "3 cut mill/a"), ((3, BARN, ("gone",)), "3 gone barn/x"),
                          ((3, MILL, ("moved", BARN)), "3 moved mill/a barn/x"),
                          ((3, BARN, ("same", MILL)), "3 same barn/x mill/a"),
                          ((10, MILL, ("page", 0, ())), "10 page mill/a 0"), (ROW, "7 page mill/a 3 barn/x mill/a")):
            self.assertEqual(logs.row_line(row), line)
            self.assertEqual(logs.read_row(line), row)

    def test_lines_against_the_plain_reader(self):
        source = random.Random(36)
        seen = {True: 0, False: 0}
        lines = LINES + [logs.row_line(some_row(source)) for _ in range(200)]
        for line in lines:
            words = line.split(" ")
            others = [line + " ", " " + line, line + " a/b", line + "\n", "\n" + line, line.replace("/", "", 1)]
            others += [" ".join(words[:at] + words[at + 1:]) for at in range(len(words))]
            others += [" ".join(words[:at] + words[at:at + 1] + words[at:]) for at in range(len(words))]
            others += [other for _ in range(6) for other in edits(source, line, LINES, SIGNS)]
            for other in [line] + others:
                row = plain.row(other) if "\n" not in other else None
                seen[row is not None] += 1
                if row is None:
                    with self.assertRaises(InvalidRow) as caught:
                        logs.read_row(other)
                    self.assertIs(caught.exception.given, other)
                else:
                    self.assertEqual(logs.read_row(other), row)
        self.assertGreater(min(seen.values()), 2000)

    def test_errors(self):
        refusals(self, logs.row_line, [("row", ROW)], {"row": given(InvalidRow, no_rows())})
        texts = [value for value in LINES if plain.row(value) is None]
        texts += ["\u0661 ask mill/a", "1\task mill/a", "1 ask mill/\u00e9", "1 ask mill/a\r", "\u00b2 ask mill/a",
                  b"0 ask mill/a", 1, ("0 ask mill/a",), ROW]
        refusals(self, logs.read_row, [("text", "0 ask mill/a")], {"text": given(InvalidRow, any_values() + texts)})


class TestLogs(unittest.TestCase):
    def test_there_and_back(self):
        source = random.Random(40)
        texts = {}
        for _ in range(200):
            log = tuple(some_row(source) for _ in range(source.randint(0, 5)))
            text = logs.log_text(log)
            self.assertEqual(text, "".join(logs.row_line(row) + "\n" for row in log))
            self.assertEqual(logs.read_log(text), log)
            self.assertEqual(texts.setdefault(text, log), log)
        self.assertEqual((logs.log_text(()), logs.read_log("")), ("", ()))

    def test_texts_next_to_right_ones(self):
        source = random.Random(41)
        seen = {"log": 0, "wrong": 0}
        for _ in range(150):
            text = logs.log_text(tuple(some_row(source) for _ in range(source.randint(1, 6))))
            for many in range(len(text) + 1):
                self.assertEqual(told(text[:many]), plain.read_log(text[:many]))
            for _ in range(8):
                for other in edits(source, text, LINES, SIGNS):
                    self.assertEqual(told(other), plain.read_log(other), other)
                    seen[told(other)[0]] += 1
        self.assertGreater(min(seen.values()), 1000)

    def test_wrong_lines_by_hand(self):
        line = "0 ask mill/a\n"
        for text, index in ((line[:-1], 0), (line + line[:-1], 1), ("\n", 0), (line + "\n", 1), (line + "\n" + line, 1),
                            (line + " ", 1), ("x\n" + line[:-1], 0), (line * 2 + "x\n" + "y\n", 2), (line + "\r\n", 1),
                            (line.replace("\n", "\r\n"), 0), (line.replace("\n", "\x0b"), 0), ("\u0661" + line[1:], 0)):
            self.assertEqual(told(text), ("wrong", index), text)
        self.assertEqual(told(line * 2), ("log", ((0, MILL, ("ask",)),) * 2))

    def test_errors(self):
        rows = [((ROW, bad, None), 1) for bad in no_rows()] + [((bad,), 0) for bad in no_rows()[::5]] + [(ROW, 0)]
        refusals(self, logs.log_text, [("log", (ROW, ROW))], {"log": indexed_wrong(InvalidLog, rows)})
        for value in no_tuples():
            with self.assertRaises(InvalidLog) as caught:
                logs.log_text(value)
            self.assertIsNone(caught.exception.index)
        texts = [(value, InvalidLine, None) for value in any_values() + no_tuples() if not isinstance(value, str)]
        refusals(self, logs.read_log, [("text", "0 ask mill/a\n")], {"text": texts + [("x", InvalidLine, 0)]})


if __name__ == "__main__":
    unittest.main()
