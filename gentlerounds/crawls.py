"""Crawls: they begin, go on step by step, come to rest, and begin their next sweep."""

from gentlerounds.addresses import check_seeds
from gentlerounds.asking import WIDEST
from gentlerounds.checks import check_between
from gentlerounds.errors import InvalidMoment, NotNow
from gentlerounds.logs import ASK
from gentlerounds.names import check_name
from gentlerounds.tasks import MOST_AT_ONCE, MOST_TIMES, check_past
from gentlerounds.values import is_between
from gentlerounds.walks import walk_behind
from gentlerounds.worlds import GONE, check_world

LAST_BEGIN = 99999999999
MOST_STEPS = 400


def crawl_of(world, crawler, seeds, *, most=1, times=0, past=(), moment=0):
    """Return the crawl with this task that has no rows yet."""
    check_world(world)
    check_name(crawler)
    check_seeds(seeds)
    check_between(most, 1, MOST_AT_ONCE)
    check_between(times, 0, MOST_TIMES)
    check_past(world, crawler, past)
    if not is_between(moment, 0, LAST_BEGIN) or (past and moment < past[-1][0]):
        raise InvalidMoment(moment)
    return (world, (crawler, seeds, most, times, past), (), moment)


def outcomes_at(walk, moment):
    """Return the rows of the outcomes that are due at the moment, in the order of their asks."""
    return [(moment, address, outcome) for address, (_, due, outcome) in walk.away.items() if due == moment]


def ask_at(walk, moment):
    """Lead the walk through the asks of a moment; return their rows."""
    rows = []
    shut = {}
    for address in list(walk.waiting):
        if walk.is_full(moment):
            break
        # A house that is not to be asked stays so for this moment, for all addresses in it.
        if address[0] not in shut:
            if walk.doors.is_free(address[0], moment):
                rows.append((moment, address, ASK))
                walk.take(rows[-1])
            else:
                shut[address[0]] = True
    return rows


def step_at(walk, moment):
    """Lead the walk through the step of a moment; return its rows."""
    rows = outcomes_at(walk, moment)
    walk.take_all(rows)
    return rows + ask_at(walk, moment)


def stir_from(walk, moment):
    """Return the first moment from this one on whose step has rows; None if there is none."""
    stirs = [due for _, due, _ in walk.away.values()]
    since = moment + 1 if walk.is_full(moment) else moment
    houses = {house: True for house, _ in walk.waiting}
    stirs.extend([walk.doors.free_from(house, since) for house in houses])
    return min(stirs, default=None)


def step_rows(crawl):
    """Return the rows of the step of a crawl."""
    return tuple(step_at(walk_behind(crawl), crawl[3]))


def stepped(crawl):
    """Return the crawl behind its step."""
    return crawled(crawl, 1)


def crawled(crawl, many):
    """Return the crawl behind so many steps."""
    check_between(many, 0, MOST_STEPS)
    world, task, log, moment = crawl
    walk = walk_behind(crawl)
    rows = list(log)
    # Steps without rows change nothing but the moment, so only the others are made.
    stir = stir_from(walk, moment)
    while stir is not None and stir < moment + many:
        rows.extend(step_at(walk, stir))
        stir = stir_from(walk, stir + 1)
    return (world, task, tuple(rows), moment + many)


def rests(crawl):
    """Tell whether no address waits and no ask is open."""
    return walk_behind(crawl).is_at_rest()


def rested(crawl):
    """Return the crawl behind as many steps as it takes to rest."""
    world, task, log, moment = crawl
    walk = walk_behind(crawl)
    rows = list(log)
    while not walk.is_at_rest():
        stir = stir_from(walk, moment)
        rows.extend(step_at(walk, stir))
        moment = stir + 1
    return (world, task, tuple(rows), moment)


def next_stir(crawl):
    """Return the first moment from that of the crawl on whose step has rows; None if it rests."""
    return stir_from(walk_behind(crawl), crawl[3])


def led_on(answers, seed):
    """Return the address to which moved answers lead from a seed; the seed if they lead round."""
    address = seed
    passed = {}
    while answers.get(address, GONE)[0] == "moved":
        if address in passed:
            return seed
        passed[address] = True
        address = answers[address][1]
    return address


def next_sweep(crawl):
    """Return the crawl that begins anew where this one rests."""
    world, (crawler, seeds, most, times, past), log, moment = crawl
    walk = walk_behind(crawl)
    if not walk.is_at_rest():
        raise NotNow()
    asks = list(past) + [(asked, house) for asked, (house, _), event in log if event == ASK]
    kept = tuple([ask for ask in asks if ask[0] > moment - WIDEST])
    further = {led_on(walk.answers, seed): True for seed in seeds}
    return (world, (crawler, tuple(further), most, times, kept), (), moment)
