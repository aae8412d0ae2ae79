"""Rows and logs, their lines and their texts."""

from gentlerounds.addresses import address_of, address_text, is_address
from gentlerounds.checks import is_moment
from gentlerounds.errors import InvalidLine, InvalidLog, InvalidRow
from gentlerounds.events import told_event, words_of_event
from gentlerounds.numerals import number_of
from gentlerounds.values import is_tuple
from gentlerounds.worlds import LOST, is_answer

ASK = ("ask",)
CUT = ("cut",)


def is_event(value):
    """Tell whether a value is the event of a row."""
    if is_answer(value):
        return True
    return is_tuple(value, 1, 1) and isinstance(value[0], str) and value in (ASK, LOST, CUT)


def is_row(value):
    """Tell whether a value is a row."""
    return is_tuple(value, 3, 3) and is_moment(value[0]) and is_address(value[1]) and is_event(value[2])


def check_log(given):
    """Raise InvalidLog for what is no tuple of rows."""
    if not isinstance(given, tuple):
        raise InvalidLog(None)
    for index, row in enumerate(given):
        if not is_row(row):
            raise InvalidLog(index)


def line_of(row):
    """Return the line of what is known to be a row."""
    moment, address, event = row
    kind, *rest = words_of_event(event)
    return " ".join([str(moment), kind, address_text(address)] + rest)


def row_line(row):
    """Return the line of a row, without a line feed."""
    if not is_row(row):
        raise InvalidRow(row)
    return line_of(row)


def row_of(line):
    """Return the row that a line tells; None for what is no line of a row."""
    words = line.split(" ")
    if len(words) < 3:
        return None
    moment, kind, address, *rest = words
    row = (number_of(moment), address_of(address), told_event(kind, rest))
    return row if is_row(row) else None


def read_row(text):
    """Return the row of a line."""
    row = row_of(text) if isinstance(text, str) else None
    if row is None:
        raise InvalidRow(text)
    return row


def log_text(log):
    """Return the text of a log."""
    check_log(log)
    return "".join([line_of(row) + "\n" for row in log])


def read_log(text):
    """Return the log that a text tells."""
    if not isinstance(text, str):
        raise InvalidLine(None)
    lines = text.split("\n")
    rest = lines.pop()
    rows = [row_of(line) for line in lines]
    if None in rows:
        raise InvalidLine(rows.index(None))
    if rest:
        raise InvalidLine(len(lines))
    return tuple(rows)
