"""The console: lines that are said to it, the state behind them, and its answers."""

from gentlerounds.addresses import MOST_SEEDS, address_of, address_text, are_addresses
from gentlerounds.copies import copies_of
from gentlerounds.crawls import MOST_STEPS, crawl_of, crawled, next_sweep, rested, rests
from gentlerounds.errors import InvalidLine, InvalidMoment, InvalidNumber, NotNow, TooMany
from gentlerounds.frontier import away, barred, waiting
from gentlerounds.journals import again, cut, journal_of
from gentlerounds.logjudge import is_right
from gentlerounds.logs import ASK, log_text
from gentlerounds.names import is_name
from gentlerounds.numerals import number_of
from gentlerounds.setups import begun
from gentlerounds.setuptexts import ROWS_APART, fraction_text, setup_in
from gentlerounds.stages import MOST_MOMENTS, best_sum
from gentlerounds.tables import bound_of, told_table
from gentlerounds.tasks import MOST_AT_ONCE, MOST_TIMES
from gentlerounds.values import is_between, is_tuple, put_at
from gentlerounds.worldtexts import read_world

MOST_EARLIER = 20
MOST_LINES = 100
NOT_UNDERSTOOD = "not understood"
NO_CRAWL = "no crawl"


def fresh_console():
    """Return the console to which nothing was said."""
    return (((), None, None, None), ())


def going(state):
    """Return the crawl of a state if it goes on, otherwise None."""
    _, crawl, journal, _ = state
    return crawl if journal is None else None


def stand_of(crawl):
    """Return the text that tells how a crawl stands."""
    asks = [row for row in crawl[2] if row[2] == ASK]
    text = f"moment {crawl[3]}, {len(asks)} asks, {len(waiting(crawl))} wait, {len(away(crawl))} away"
    return text + ", at rest" if rests(crawl) else text


def with_crawl(state, crawl):
    """Return the state in which this crawl goes on, and its stand."""
    world, _, _, setup = state
    return (world, crawl, None, setup), stand_of(crawl)


def with_world(state, world):
    """Return the state with this world and no crawl, and how many houses there are."""
    return (world, None, None, state[3]), f"{len(world)} houses"


def lines_or_nothing(lines):
    """Return the lines of an answer as a text."""
    return "\n".join(lines) or "nothing"


def say_world(state, rest):
    """Read a world."""
    try:
        return with_world(state, read_world(rest.replace(ROWS_APART, "\n") + "\n"))
    except InvalidLine as wrong:
        return state, f"not read in line {wrong.index}"


def say_no_world(state):
    """Go back to the world without houses."""
    return with_world(state, ())


def say_crawl(state, rest):
    """Begin a crawl."""
    words = rest.split(" ")
    if len(words) < 3 or not is_name(words[0]):
        return None
    most, times = number_of(words[1]), number_of(words[2])
    seeds = tuple([address_of(word) for word in words[3:]])
    if not is_between(most, 1, MOST_AT_ONCE) or not is_between(times, 0, MOST_TIMES):
        return None
    if not are_addresses(seeds, MOST_SEEDS):
        return None
    return with_crawl(state, crawl_of(state[0], words[0], seeds, most=most, times=times))


def say_go(state, rest):
    """Make so many steps."""
    many = number_of(rest)
    if not is_between(many, 0, MOST_STEPS):
        return None
    crawl = going(state)
    return (state, NO_CRAWL) if crawl is None else with_crawl(state, crawled(crawl, many))


def say_rest(state):
    """Make as many steps as it takes to rest."""
    crawl = going(state)
    return (state, NO_CRAWL) if crawl is None else with_crawl(state, rested(crawl))


def say_sweep(state):
    """Begin the next sweep."""
    crawl = going(state)
    if crawl is None:
        return state, NO_CRAWL
    try:
        return with_crawl(state, next_sweep(crawl))
    except NotNow:
        return state, "not at rest"


def say_cut(state, rest):
    """Cut the crawl."""
    numbers = [number_of(word) for word in rest.split(" ")]
    if len(numbers) != 2 or None in numbers:
        return None
    crawl = going(state)
    if crawl is None:
        return state, NO_CRAWL
    try:
        return put_at(state, 2, cut(crawl, numbers[0], numbers[1])), "cut"
    except InvalidNumber:
        return state, "not so"


def say_again(state, rest):
    """Take the crawl up again."""
    moment = number_of(rest)
    if moment is None:
        return None
    _, crawl, journal, _ = state
    if journal is None:
        return state, "no cut"
    try:
        return with_crawl(state, again(crawl, journal, moment))
    except (InvalidMoment, NotNow):
        return state, "not now"


def say_journal(state):
    """Tell the journal, also of a crawl that is cut."""
    _, crawl, journal, _ = state
    if crawl is None:
        return state, NO_CRAWL
    return state, (journal_of(crawl)[:-1] if journal is None else journal) or "nothing"


def told_log(crawl):
    """Return the text of the log of a crawl."""
    return log_text(crawl[2])[:-1] or "nothing"


def told_waiting(crawl):
    """Return a line for each address that waits."""
    return lines_or_nothing([address_text(address) for address in waiting(crawl)])


def told_barred(crawl):
    """Return a line for each address that is barred."""
    return lines_or_nothing([address_text(address) for address in barred(crawl)])


def told_copies(crawl):
    """Return a line for each copy."""
    return lines_or_nothing([f"{address_text(address)} {mark} {moment}" for address, mark, moment in copies_of(crawl)])


def told_judgement(crawl):
    """Return what the judge tells of the log."""
    world, task, log, _ = crawl
    return "right" if is_right(world, task, log) else "wrong"


def say_setup(state, rest):
    """Read a set-up, and tell its rate."""
    setup = setup_in(rest)
    if setup is None:
        return state, "not a set-up"
    try:
        table = told_table(setup)
    except TooMany:
        return state, "too many"
    bound = bound_of(setup, table)
    answer = f"rate {fraction_text(table[0])}, bound {fraction_text(bound)}, {len(table[1])} standings"
    return put_at(state, 3, setup), answer


def say_best(state, rest):
    """Tell the best sum of so many moments."""
    many = number_of(rest)
    if not is_between(many, 0, MOST_MOMENTS):
        return None
    setup = state[3]
    if setup is None:
        return state, "no set-up"
    return state, "best " + fraction_text(best_sum(setup, begun(setup), many))


# What is said with words behind it, what is said alone, and what only tells of a crawl that goes on.
WITH_WORDS = {"world": say_world, "crawl": say_crawl, "go": say_go, "cut": say_cut, "again": say_again,
              "setup": say_setup, "best": say_best}
ALONE = {"world": say_no_world, "rest": say_rest, "sweep": say_sweep, "journal": say_journal}
TELLING = {"log": told_log, "waiting": told_waiting, "barred": told_barred, "copies": told_copies,
           "judge": told_judgement}


def answered(state, line):
    """Return the state behind a line and the answer."""
    word, blank, rest = line.partition(" ")
    if blank and word in WITH_WORDS:
        say = WITH_WORDS[word]
        told = say(state, rest)
        return (state, NOT_UNDERSTOOD) if told is None else told
    if line in ALONE:
        say_alone = ALONE[line]
        return say_alone(state)
    if line in TELLING:
        crawl = going(state)
        tell = TELLING[line]
        return state, NO_CRAWL if crawl is None else tell(crawl)
    return state, NOT_UNDERSTOOD


def said(console, line):
    """Return the console behind a line that is said to it, and the answer."""
    if not isinstance(line, str):
        raise InvalidLine(None)
    state, earlier = console
    if line == "back":
        return ((earlier[-1], earlier[:-1]), "back") if earlier else (console, "nothing there")
    further, answer = answered(state, line)
    if further != state:
        earlier = (earlier + (state,))[-MOST_EARLIER:]
    return (further, earlier), answer


def told_all(console, lines):
    """Return the console behind all lines, and the tuple of the answers."""
    if not is_tuple(lines, 0, MOST_LINES):
        raise InvalidLine(None)
    for index, line in enumerate(lines):
        if not isinstance(line, str):
            raise InvalidLine(index)
    answers = []
    for line in lines:
        console, answer = said(console, line)
        answers.append(answer)
    return console, tuple(answers)
