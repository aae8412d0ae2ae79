"""Tasks: a crawler, its seeds, how it asks, and the asks that it made earlier."""

from gentlerounds.addresses import MOST_SEEDS, are_addresses, check_address
from gentlerounds.checks import is_moment
from gentlerounds.doors import Doors
from gentlerounds.errors import InvalidPast, InvalidTask
from gentlerounds.files import is_let, rules_of
from gentlerounds.names import check_name, is_name
from gentlerounds.values import is_between, is_tuple
from gentlerounds.worlds import check_world, house_in

MOST_AT_ONCE = 9
MOST_TIMES = 3
MOST_PAST = 400


def is_past_ask(value):
    """Tell whether a value is a moment and the name of a house."""
    return is_tuple(value, 2, 2) and is_moment(value[0]) and is_name(value[1])


def comes_back(asks, index):
    """Tell whether the earlier ask with this index is below the one ahead of it, or too many of its moment."""
    moment = asks[index][0]
    if index > 0 and moment < asks[index - 1][0]:
        return True
    return index >= MOST_AT_ONCE and moment == asks[index - MOST_AT_ONCE][0]


def fault_in_past(world, crawler, value):
    """Return () for earlier asks of the crawler, otherwise a tuple of the index that InvalidPast tells."""
    if not is_tuple(value, 0, MOST_PAST):
        return (None,)
    doors = Doors(world, crawler)
    for index, pair in enumerate(value):
        if not is_past_ask(pair) or comes_back(value, index):
            return (index,)
        moment, house = pair
        if not doors.is_free(house, moment):
            return (index,)
        doors.note(house, moment)
    return ()


def check_past(world, crawler, given):
    """Raise InvalidPast for what is no earlier asks of the crawler."""
    fault = fault_in_past(world, crawler, given)
    if fault:
        raise InvalidPast(fault[0])


def fault_in_task(world, value):
    """Return () for a task in the world, otherwise a tuple of the index that InvalidTask tells."""
    if not is_tuple(value, 5, 5):
        return (None,)
    crawler, seeds, most, times, past = value
    if not is_name(crawler):
        return (0,)
    if not are_addresses(seeds, MOST_SEEDS):
        return (1,)
    if not is_between(most, 1, MOST_AT_ONCE):
        return (2,)
    if not is_between(times, 0, MOST_TIMES):
        return (3,)
    return (4,) if fault_in_past(world, crawler, past) else ()


def is_task(world, value):
    """Tell whether a value is a task in the world."""
    check_world(world)
    return not fault_in_task(world, value)


def check_task(world, given):
    """Raise InvalidTask for what is no task in the world."""
    fault = fault_in_task(world, given)
    if fault:
        raise InvalidTask(fault[0])


def rules_at(world, crawler, house):
    """Return the rules that a house has for the crawler."""
    check_world(world)
    check_name(crawler)
    check_name(house)
    return rules_of(house_in(world, house)[1], crawler)


def may_be_asked(world, crawler, address):
    """Tell whether the crawler may ask for the address."""
    check_world(world)
    check_name(crawler)
    check_address(address)
    house, path = address
    return is_let(house_in(world, house)[1], crawler, path)
