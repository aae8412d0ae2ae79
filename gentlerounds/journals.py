"""Journals: what a crawler notes ahead of each ask, so that a crawl that is cut goes on politely."""

from gentlerounds.addresses import is_address
from gentlerounds.checks import check_between, is_moment
from gentlerounds.crawls import LAST_BEGIN
from gentlerounds.errors import InvalidDeeds, InvalidJournal, InvalidLine, InvalidLog, InvalidMoment, NotNow
from gentlerounds.logjudge import first_fault
from gentlerounds.logs import ASK, CUT, check_log, line_of, row_of
from gentlerounds.values import is_between, is_tuple
from gentlerounds.walks import Walk

MODULUS = 999983


def seal(text):
    """Return the seal of what is known to be a string."""
    return sum([ord(sign) * place for place, sign in enumerate(text, start=1)]) % MODULUS


def seal_of(text):
    """Return the seal of a string."""
    if not isinstance(text, str):
        raise InvalidLine(None)
    return seal(text)


def journal_line(index, row):
    """Return the line of a row with this index, with its line feed."""
    noted = f"{index} {line_of(row)}"
    return f"{noted} {seal(noted)}\n"


def lines_of_log(log):
    """Return the list of the lines of the journal of what is known to be a log."""
    return [journal_line(index, row) for index, row in enumerate(log)]


def journal_of(crawl):
    """Return the journal of the log of a crawl."""
    return "".join(lines_of_log(crawl[2]))


def print_journal(log):
    """Return the journal of a log."""
    check_log(log)
    return "".join(lines_of_log(log))


def row_noted(index, line):
    """Return the row of which this, with a line feed, is the line with the index; None if there is none."""
    row = row_of(line.partition(" ")[2].rpartition(" ")[0])
    if row is None or journal_line(index, row) != line + "\n":
        return None
    return row


def read_journal(text):
    """Return the log that a journal tells; a torn line behind its last line feed is left out."""
    if not isinstance(text, str):
        raise InvalidJournal(None)
    lines = text.split("\n")[:-1]
    rows = [row_noted(index, line) for index, line in enumerate(lines)]
    if None in rows:
        raise InvalidJournal(rows.index(None))
    return tuple(rows)


def cut(crawl, rows, torn):
    """Return the journal of a crawl, cut behind so many lines and so many signs of the next one."""
    lines = lines_of_log(crawl[2])
    check_between(rows, 0, len(lines))
    torn_line = "".join(lines[rows:rows + 1])
    check_between(torn, 0, max(0, len(torn_line) - 1))
    return "".join(lines[:rows]) + torn_line[:torn]


def deeds_of(log):
    """Return the tuple of the deeds of all rows: what is written, and each ask that is made behind that."""
    check_log(log)
    deeds = []
    for index, row in enumerate(log):
        deeds.append(("write", journal_line(index, row)))
        moment, address, event = row
        if event == ASK:
            deeds.append(("ask", moment, address))
    return tuple(deeds)


def is_write(value):
    """Tell whether a value is a deed that writes a line."""
    return is_tuple(value, 2, 2) and isinstance(value[0], str) and value[0] == "write" and isinstance(value[1], str)


def is_asking(value):
    """Tell whether a value is a deed that asks for an address."""
    if not is_tuple(value, 3, 3) or not isinstance(value[0], str) or value[0] != "ask":
        return False
    return is_moment(value[1]) and is_address(value[2])


def check_deeds(given):
    """Raise InvalidDeeds for what is no tuple of deeds."""
    if not isinstance(given, tuple):
        raise InvalidDeeds(None)
    for index, deed in enumerate(given):
        if not is_write(deed) and not is_asking(deed):
            raise InvalidDeeds(index)


def behind(deeds, many, torn=0):
    """Return what is written and which asks were made when a cut comes behind so many deeds and signs."""
    check_deeds(deeds)
    check_between(many, 0, len(deeds))
    torn_line = "".join([deed[1] for deed in deeds[many:many + 1] if is_write(deed)])
    check_between(torn, 0, max(0, len(torn_line) - 1))
    done = deeds[:many]
    written = "".join([deed[1] for deed in done if is_write(deed)])
    return written + torn_line[:torn], tuple([deed[1:] for deed in done if not is_write(deed)])


def again(crawl, text, moment):
    """Return the crawl of the same world and task, taken up again at the moment by what a journal tells."""
    world, task, _, _ = crawl
    log = read_journal(text)
    if not is_between(moment, 0, LAST_BEGIN):
        raise InvalidMoment(moment)
    walk = Walk(world, task)
    fault = first_fault(walk, log)
    if fault is not None:
        raise InvalidLog(fault[0])
    if moment < walk.now:
        raise NotNow()
    cuts = [(moment, address, CUT) for address in walk.away]
    return (world, task, log + tuple(cuts), moment)
