"""Copies of pages, and what the answers of a crawl lead to."""

from gentlerounds.addresses import check_address, is_address
from gentlerounds.checks import check_moment, is_moment
from gentlerounds.errors import InvalidCopies
from gentlerounds.logs import ASK
from gentlerounds.values import is_between, is_tuple
from gentlerounds.walks import walk_behind
from gentlerounds.worlds import HIGHEST_MARK, answer_at, check_world, versions_at


def is_copy(value):
    """Tell whether a value is a copy."""
    if not is_tuple(value, 3, 3):
        return False
    address, mark, moment = value
    return is_address(address) and is_between(mark, 0, HIGHEST_MARK) and is_moment(moment)


def fault_in_copies(value):
    """Return () for copies, otherwise a tuple of the index that InvalidCopies tells."""
    if not isinstance(value, tuple):
        return (None,)
    last = ()
    for index, copy in enumerate(value):
        if not is_copy(copy) or copy[0] <= last:
            return (index,)
        last = copy[0]
    return ()


def is_copies(value):
    """Tell whether a value is copies."""
    return not fault_in_copies(value)


def check_copies(given):
    """Raise InvalidCopies for what is no copies."""
    fault = fault_in_copies(given)
    if fault:
        raise InvalidCopies(fault[0])


def copies_of(crawl):
    """Return the copies of a crawl: of each page in its log the mark, and the moment of the ask."""
    asked = {}
    copies = []
    for moment, address, event in crawl[2]:
        if event == ASK:
            asked[address] = moment
        elif event[0] == "page":
            copies.append((address, event[1], asked[address]))
    return tuple(sorted(copies))


def joined_copies(copies, others):
    """Return for each address of both the newer copy, of those of one moment the one with the greater mark."""
    check_copies(copies)
    check_copies(others)
    newest = {}
    for address, mark, moment in copies + others:
        newest[address] = max(newest.get(address, ()), (moment, mark))
    return tuple([(address, mark, moment) for address, (moment, mark) in sorted(newest.items())])


def is_so(world, copy, moment):
    """Tell whether a page with the mark of the copy is at its address at the moment."""
    answer = answer_at(versions_at(world, copy[0]), moment)
    return answer[0] == "page" and answer[1] == copy[1]


def still_so(world, copies, moment):
    """Return the tuple of the copies that are still so at the moment."""
    check_world(world)
    check_copies(copies)
    check_moment(moment)
    return tuple([copy for copy in copies if is_so(world, copy, moment)])


def end_by(answers, address):
    """Return the word and the address to which one comes by the answers from the address."""
    passed = {}
    while address not in passed:
        if address not in answers:
            return "none", address
        answer = answers[address]
        if answer[0] in ("page", "gone"):
            return answer[0], address
        passed[address] = True
        address = answer[1]
    return "ring", address


def end_of(crawl, address):
    """Return the word and the address to which one comes in the log of a crawl from the address."""
    check_address(address)
    return end_by(walk_behind(crawl).answers, address)


def alike(crawl):
    """Return for each page in the log of a crawl its address and all addresses from which one comes to it."""
    answers = walk_behind(crawl).answers
    members = {page: [] for page in sorted(answers) if answers[page][0] == "page"}
    for address in sorted(answers):
        word, end = end_by(answers, address)
        if word == "page":
            members[end].append(address)
    return tuple([(page, tuple(rows)) for page, rows in members.items()])
