"""Where the addresses of a crawl stand: met, barred, waiting, away, and how many asks are left."""

from gentlerounds.addresses import check_address
from gentlerounds.logs import ASK
from gentlerounds.names import check_name
from gentlerounds.walks import walk_behind
from gentlerounds.worlds import named_in


def met(crawl):
    """Return the tuple of the addresses that are met, in order."""
    return tuple(walk_behind(crawl).met)


def barred(crawl):
    """Return the tuple of the addresses that are met and barred, in order."""
    return tuple([address for address, is_let in walk_behind(crawl).met.items() if not is_let])


def waiting(crawl):
    """Return the tuple of the addresses that wait, in their order."""
    return tuple(walk_behind(crawl).waiting)


def away(crawl):
    """Return the tuple of the open asks, in order, as pairs of moment and address."""
    return tuple([(asked, address) for address, (asked, _, _) in walk_behind(crawl).away.items()])


def stands(crawl, address):
    """Return the word for where an address stands."""
    check_address(address)
    return walk_behind(crawl).place_of(address)


def house_asks(crawl, house):
    """Return the tuple of the moments of all asks of a house, the earlier ones ahead."""
    check_name(house)
    _, task, log, _ = crawl
    earlier = [moment for moment, name in task[4] if name == house]
    return tuple(earlier + [moment for moment, address, event in log if address[0] == house and event == ASK])


def asks_left(crawl):
    """Return how many asks are left to a crawl at most, if nothing is cut."""
    walk = walk_behind(crawl)
    world, task, _, _ = crawl
    left = 0
    for address in named_in(world, task[1]):
        if walk.doors.admits(address) and address not in walk.answers:
            left += walk.times + 1 - walk.lost(address) - (1 if address in walk.away else 0)
    return left
