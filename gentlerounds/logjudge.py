"""The judge of logs: it walks the rows once, and tells the first wrong one and its reason."""

from gentlerounds.checks import is_moment
from gentlerounds.logs import ASK, CUT, is_row
from gentlerounds.tasks import check_task, fault_in_task
from gentlerounds.values import is_tuple
from gentlerounds.walks import Walk
from gentlerounds.worlds import check_world, is_world


def reason_against(walk, value):
    """Return the first reason that speaks against a value as the next row of a right log; None for a right row."""
    if not is_row(value):
        return "form"
    moment, address, event = value
    if moment < walk.now:
        return "back"
    if event != CUT:
        if walk.is_due_below(moment):
            return "overdue"
        if walk.is_cut and walk.away:
            return "amid"
    if event == ASK:
        return reason_against_ask(walk, moment, address)
    return reason_against_outcome(walk, value)


def reason_against_ask(walk, moment, address):
    """Return the first reason that speaks against an ask; None."""
    place = walk.place_of(address)
    if place != "waiting":
        return place
    if walk.is_full(moment):
        return "many"
    return None if walk.doors.is_free(address[0], moment) else "impolite"


def reason_against_outcome(walk, row):
    """Return the first reason that speaks against an outcome; None."""
    moment, address, event = row
    if address not in walk.away:
        return "unasked"
    if event == CUT:
        return None
    _, due, outcome = walk.away[address]
    if due > moment:
        return "early"
    return None if event == outcome else "untrue"


def first_fault(walk, rows):
    """Lead the walk through the rows up to the first wrong one; return its index and its reason; None."""
    for index, row in enumerate(rows):
        reason = reason_against(walk, row)
        if reason is not None:
            return index, reason
        walk.take(row)
    return None


def first_wrong_row(world, task, value):
    """Return the index and the reason of the first wrong row; None for a right log."""
    check_world(world)
    check_task(world, task)
    if not isinstance(value, tuple):
        return None, "form"
    return first_fault(Walk(world, task), value)


def is_right(world, task, value):
    """Tell whether a value is a right log."""
    return first_wrong_row(world, task, value) is None


def is_crawl(value):
    """Tell whether a value is a crawl."""
    if not is_tuple(value, 4, 4):
        return False
    world, task, log, moment = value
    if not is_world(world) or fault_in_task(world, task) or not isinstance(log, tuple) or not is_moment(moment):
        return False
    walk = Walk(world, task)
    if first_fault(walk, log) is not None or moment < walk.now or walk.is_due_below(moment):
        return False
    return not walk.is_cut or not walk.away
