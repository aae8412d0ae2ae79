"""Worlds: houses with their rule files and pages, what is at an address, and what comes of asking for it."""

from gentlerounds.addresses import are_addresses, check_address, check_seeds, is_address, is_place
from gentlerounds.checks import check_moment, is_moment
from gentlerounds.errors import InvalidWorld
from gentlerounds.files import is_file
from gentlerounds.names import check_name, is_name
from gentlerounds.values import is_between, is_tuple

HIGHEST_MARK = 999999
MOST_LINKS = 6
LONGEST_DELAY = 3
MOST_LOST = 20
MOST_PAGES = 12
MOST_VERSIONS = 6
MOST_HOUSES = 6
GONE = ("gone",)
LOST = ("lost",)


def is_answer(value):
    """Tell whether a value is an answer."""
    if not is_tuple(value, 1, 3) or not isinstance(value[0], str):
        return False
    kind = value[0]
    if kind == "page":
        return len(value) == 3 and is_between(value[1], 0, HIGHEST_MARK) and are_addresses(value[2], MOST_LINKS)
    if kind in ("moved", "same"):
        return len(value) == 2 and is_address(value[1])
    return value == GONE


def are_ascending(moments):
    """Tell whether each of the moments is above the one ahead of it."""
    return all(one < two for one, two in zip(moments, moments[1:]))


def are_lost(value):
    """Tell whether a value is the moments of a house at which asks are lost."""
    return is_tuple(value, 0, MOST_LOST) and all(is_moment(one) for one in value) and are_ascending(value)


def is_version(value):
    """Tell whether a value is a version of a page: a moment and the answer that is there from then on."""
    return is_tuple(value, 2, 2) and is_moment(value[0]) and is_answer(value[1])


def are_versions(value):
    """Tell whether a value is the versions of a page."""
    if not is_tuple(value, 1, MOST_VERSIONS) or not all(is_version(one) for one in value):
        return False
    return are_ascending([moment for moment, _ in value])


def is_page(value):
    """Tell whether a value is a page of a house: its path and its versions."""
    return is_tuple(value, 2, 2) and is_place(value[0]) and are_versions(value[1])


def are_pages(value):
    """Tell whether a value is the pages of a house."""
    if not is_tuple(value, 0, MOST_PAGES) or not all(is_page(one) for one in value):
        return False
    return len({path for path, _ in value}) == len(value)


def is_house(value):
    """Tell whether a value is a house."""
    if not is_tuple(value, 5, 5):
        return False
    name, file, delay, lost, pages = value
    if not is_name(name) or not is_file(file) or not is_between(delay, 0, LONGEST_DELAY):
        return False
    return are_lost(lost) and are_pages(pages)


def fault_in_world(value):
    """Return () for a world, otherwise a tuple of the index that InvalidWorld tells."""
    if not is_tuple(value, 0, MOST_HOUSES):
        return (None,)
    told = {}
    for index, house in enumerate(value):
        if not is_house(house) or house[0] in told:
            return (index,)
        told[house[0]] = True
    return ()


def is_world(value):
    """Tell whether a value is a world."""
    return not fault_in_world(value)


def check_world(given):
    """Raise InvalidWorld for what is no world."""
    fault = fault_in_world(given)
    if fault:
        raise InvalidWorld(fault[0])


def house_in(world, name):
    """Return the house of this name, or what counts as it."""
    for house in world:
        if house[0] == name:
            return house
    return (name, (), 0, (), ())


def house_of(world, house):
    """Return the house of this name, or what counts as it."""
    check_world(world)
    check_name(house)
    return house_in(world, house)


def versions_at(world, address):
    """Return the versions of the page at the address, () if there is no such page."""
    house, path = address
    for told, versions in house_in(world, house)[4]:
        if told == path:
            return versions
    return ()


def answer_at(versions, moment):
    """Return the answer that the versions of a page have at the moment."""
    answers = [answer for since, answer in versions if since <= moment]
    return answers[-1] if answers else GONE


def check_place(world, address, moment):
    """Raise the error of the first of the three that is wrong."""
    check_world(world)
    check_address(address)
    check_moment(moment)


def told_at(world, address, moment):
    """Return the answer that is at the address at the moment."""
    check_place(world, address, moment)
    return answer_at(versions_at(world, address), moment)


def outcome_in(world, address, moment):
    """Return when the outcome of an ask for the address at the moment is due, and the outcome."""
    _, _, delay, lost, _ = house_in(world, address[0])
    outcome = LOST if moment in lost else answer_at(versions_at(world, address), moment)
    return moment + 1 + delay, outcome


def outcome_of(world, address, moment):
    """Return when the outcome of an ask for the address at the moment is due, and the outcome."""
    check_place(world, address, moment)
    return outcome_in(world, address, moment)


def next_change(world, address, moment):
    """Return the first moment above this one at which another answer is at the address than now; None."""
    now = told_at(world, address, moment)
    for since, answer in versions_at(world, address):
        if since > moment and answer != now:
            return since
    return None


def links_of(event):
    """Return the addresses that an event tells."""
    return event[2] if event[0] == "page" else event[1:]


def named_in(world, seeds):
    """Return the list of the addresses of the seeds and of all answers in the world, each once."""
    told = {address: True for address in seeds}
    for _, _, _, _, pages in world:
        for _, versions in pages:
            for _, answer in versions:
                told.update({address: True for address in links_of(answer)})
    return list(told)


def named(world, seeds):
    """Return the ascending tuple of the addresses of the seeds and of all answers in the world."""
    check_world(world)
    check_seeds(seeds)
    return tuple(sorted(named_in(world, seeds)))
