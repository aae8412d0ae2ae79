"""Addresses, worlds, tasks and logs for tests: right ones, ones next to them, and any ones."""

from tests import plain
from tests.helper import Echo, any_values, no_hours, no_numbers, no_tuples, some_hours, some_limits

MILL, BARN = ("mill", "/a"), ("barn", "/x")
LONGEST = ("a" * 12, "/" + "b" * 39)
LAST = 999999999999

NO_ADDRESSES = ["mill/a", ("mill",), ("mill", "/a", "/b"), ["mill", "/a"], ("mill", "a"), ("mill", ""), ("", "/a"),
                ("Mill", "/a"), ("a" * 13, "/a"), ("mill", "/" + "a" * 40), ("mill", "/A"), ("mill", "/*"),
                ("mill", "/a$"), ("mill", b"/a"), (b"mill", "/a"), ("mill", ("/a",)), (("mill",), "/a"),
                ("mill", None), (None, "/a"), (True, "/a"), ("mill", 1), ("mill", "/a b"), ("mill", "/a\n"),
                ("/a", "mill"), ("mi ll", "/a"), ("m1ll", "/a"), (Echo(), "/a"), ("mill", Echo()), ("mill", ["/a"])]
NO_ANSWERS = [("page",), ("page", 1), ("page", ()), ("page", 1, (), ()), ("page", -1, ()), ("page", 1000000, ()),
              ("page", True, ()), ("page", "1", ()), ("page", None, ()), ("page", 1, []), ("page", 1, [MILL]),
              ("page", 1, MILL), ("page", 1, (MILL,) * 7), ("page", 1, (MILL, "mill/a")),
              ("page", (), 1), ("page", 1, None),
              ("moved",), ("moved", MILL, MILL), ("moved", (MILL,)), ("moved", "mill/a"), ("moved", 1, ()), ("same",),
              ("same", MILL, BARN), ("same", (MILL, BARN)), ("same", None), ("gone", MILL), ("gone", ()),
              ("gone", None),
              ("Gone",), ("ask",), ("lost",), ("cut",), ("",), ("pages", 1, ()), "gone", "page", ["gone"], (b"gone",),
              (Echo(),), (Echo(), MILL), (Echo(), 1, ()), (("gone",),), ("lost", MILL), ["moved", MILL],
              ("gone", "gone")]
ANSWERS = [("page", 0, ()), ("page", 999999, (MILL,) * 6), ("page", 7, (MILL, LONGEST, BARN)), ("moved", MILL),
           ("same", LONGEST), ("gone",)]


def no_addresses():
    """Values that are no addresses."""
    return any_values() + NO_ADDRESSES


def no_answers():
    """Values that are no answers."""
    return any_values() + NO_ANSWERS + [(kind, value) for kind in ("moved", "same") for value in no_addresses()]


def no_moments():
    """Values that are no moments of a world."""
    return no_numbers(0, LAST)


def put(row, index, value):
    return row[:index] + (value,) + row[index + 1:]


FILE = ((("a", "ab", "*"), (("bar", "/no"), ("let", "/no*$")), ((2, 3),), (1, 0)), (("b",), (), (), (1,)))
PAGE = ("/a", ((0, ("page", 1, (MILL,))), (5, ("moved", BARN)), (LAST, ("gone",))))
HOUSE = ("mill", FILE, 3, (0, 4, LAST), (PAGE, ("/b", ((3, ("same", MILL)),))))


def no_pages():
    """Values that are no pages of a house, each beside a right one."""
    version = PAGE[1]
    wrong = any_values() + [(0,), (0, ("gone",), 1), [0, ("gone",)]]
    rows = [("/a", put(version, at, bad)) for at in (0, 2) for bad in wrong]
    rows += [("/a", ((bad, ("gone",)),)) for bad in no_moments()] + [("/a", ((0, bad),)) for bad in no_answers()]
    rows += [("/a", bad) for bad in any_values() + [(), list(version), {}, version[0], version[:1] * 2, version[::-1]]]
    rows += [("/a", tuple((at, ("gone",)) for at in moments)) for moments in (range(7), (0, 3, 3), (0, 4, 3))]
    rows += [(bad, version) for bad in any_values() + ["", "a", "/" + "a" * 40, "/*", "/A", b"/a", 1, ("/a",)]]
    rows += [PAGE[:1], PAGE + ((),), list(PAGE), PAGE[::-1]]
    return rows


def no_houses():
    """Values that are no houses."""
    rows = [put(HOUSE, 0, bad) for bad in any_values() + ["", "A", "a" * 13, b"a", "*", "a b"]]
    rows += [put(HOUSE, 1, bad) for bad in no_tuples() + [(FILE,), FILE + FILE[:1], FILE[0], (FILE[0], None), ("a",)]]
    rows += [put(HOUSE, 1, ((("a",), (), (), bad),)) for bad in no_hours()[:5]]
    rows += [put(HOUSE, 2, bad) for bad in no_numbers(0, 3)]
    rows += [put(HOUSE, 3, bad) for bad in no_tuples() + [(bad,) for bad in no_moments()]]
    rows += [put(HOUSE, 3, bad) for bad in [(3, 3), (3, 2), (0, 1, LAST + 1), tuple(range(21)), (1, None), (0, 2, 1)]]
    rows += [put(HOUSE, 4, (PAGE, ("/c", PAGE[1]), bad)) for bad in any_values() + [(), ("/d",)]]
    rows += [put(HOUSE, 4, (("/z", PAGE[1]), bad)) for bad in no_pages()] + [put(HOUSE, 4, bad) for bad in no_tuples()]
    rows += [put(HOUSE, 4, (PAGE, ("/b", PAGE[1]), PAGE)), put(HOUSE, 4, (PAGE, ("/a", ((0, ("gone",)),)))),
             put(HOUSE, 4, PAGE), put(HOUSE, 4, tuple(("/" + "a" * at, PAGE[1]) for at in range(13)))]
    return rows + any_values() + [HOUSE[:4], HOUSE + ((),), list(HOUSE), (), HOUSE[::-1], "mill"]


def no_worlds():
    """Rows for `indexed`: values that are no worlds, and the index that is told."""
    one, two = ("barn", (), 0, (), ()), ("inn", (), 1, (2,), (("/", ((0, ("gone",)),)),))
    rows = [((one, bad, two), 1) for bad in no_houses()]
    rows += [((bad,), 0) for bad in any_values() + [HOUSE[:4]]]
    rows += [((one, two, one), 2), ((one, put(two, 0, "barn"), None), 1)]
    six = tuple(put(one, 0, name) for name in "abcdef")
    return rows + [(six + (two,), None), ((None,) * 7, None), (six[:5] + (six[0],), 5), (six[:5] + (None,), 5),
                   ((None, None), 0), (HOUSE, 0)]


def indexed_wrong(kind, rows):
    """Rows for `refusals`, without all the values that are no tuples: (value, class, index)."""
    return [(None, kind, None), ([], kind, None), ("", kind, None), (True, kind, None), ({}, kind, None),
            (Echo(), kind, None)] + [(value, kind, index) for value, index in rows]


def edits(source, text, lines, signs):
    """Texts next to a text: a line or a sign more, less, twice or another one, two lines exchanged, cut off."""
    rows = text.split("\n")
    at, other = source.randrange(len(rows)), source.randrange(len(rows))
    place = source.randrange(len(text) + 1)
    yield "\n".join(rows[:at] + rows[at + 1:])
    yield "\n".join(rows[:at] + rows[at:at + 1] + rows[at:])
    yield "\n".join(rows[:at] + [rows[other]] + rows[at:])
    yield "\n".join(rows[:at] + [source.choice(lines)] + rows[at:])
    yield "\n".join(rows[:at] + [source.choice(lines)] + rows[at + 1:])
    rows[at], rows[other] = rows[other], rows[at]
    yield "\n".join(rows)
    yield text[:place]
    yield text[:place] + text[place + 1:]
    yield text[:place] + source.choice(signs) + text[place:]
    yield text[:place] + source.choice(signs) + text[place + 1:]


NAMES = ("mill", "barn", "inn")
PATHS = ("/", "/a", "/b", "/no", "/no/a")
CRAWLER = "ann"


def some_address(source, names=NAMES + ("far",)):
    return source.choice(names), source.choice(PATHS)


def some_answer(source):
    kind = source.choice(("page", "page", "page", "moved", "same", "gone"))
    if kind == "page":
        return kind, source.randint(0, 9), tuple(some_address(source) for _ in range(source.choice((0, 2, 3, 6))))
    return ("gone",) if kind == "gone" else (kind, some_address(source))


def some_file(source):
    groups = []
    for names in (("ann",), ("a", "anna"), ("*",)):
        if source.random() < 0.5:
            paths = tuple((source.choice(("bar", "let")), source.choice(("/no", "/*a", "/b$", "/no/*", "/")))
                          for _ in range(source.choice((0, 0, 1, 2))))
            groups.append((names, paths, some_limits(source, 3, 12, 2), some_hours(source, 5)))
    source.shuffle(groups)
    return tuple(groups)


def some_house(source, name, still=False):
    pages = []
    for path in source.sample(PATHS, source.choice((0, 3, 5, 5))):
        begins = source.choice((0, 0, 0, 6))
        moments = (0,) if still else sorted(source.sample(range(begins, 25), source.randint(1, 3)))
        moments = source.choice((moments, [0] + moments[1:])) if not still else moments
        pages.append((path, tuple((moment, some_answer(source)) for moment in moments)))
    lost = () if still else tuple(sorted(source.sample(range(30), source.choice((0, 0, 8, 20)))))
    return name, some_file(source), source.randint(0, 3), lost, tuple(pages)


def some_world(source, still=False):
    return tuple(some_house(source, name, still) for name in source.sample(NAMES, source.choice((0, 1, 2, 3, 3, 3))))


def some_past(source, world, many=6):
    """Earlier asks that are polite for the rules of each house."""
    task, moment = (CRAWLER, (), 1, 0, ()), 0
    for _ in range(source.choice((0, 0, many))):
        moment += source.choice((0, 0, 1, 2))
        name = source.choice(NAMES + ("far",))
        if plain.made(task, (), moment) < 9 and plain.may_ask(world, task, (), name, moment):
            task = put(task, 4, task[4] + ((moment, name),))
    return task[4]


def some_task(source, world):
    seeds = tuple(some_address(source) for _ in range(source.choice((0, 1, 2, 3, 8, 8))))
    return CRAWLER, seeds, source.choice((1, 1, 2, 3, 9)), source.choice((0, 0, 1, 2, 3)), some_past(source, world)


def some_row(source, world, task, rows, moment):
    """A row that may well be right behind these."""
    asks = plain.open_asks(rows)
    if asks and source.random() < 0.6:
        asked, where = source.choice(asks)
        due, what = plain.outcome(world, where, asked)
        return (max(due, moment), where, what) if source.random() < 0.9 else (moment, where, ("cut",))
    waiting = plain.waiting(world, task, rows)
    where = source.choice(waiting) if waiting and source.random() < 0.9 else some_address(source)
    return moment + source.choice((0, 0, 0, 1, 3)), where, ("ask",)


def some_log(source, world, task, tries):
    """A right log, not made by steps: rows that the plain judge finds right, or the first ones of them."""
    rows = ()
    for _ in range(tries):
        moment = rows[-1][0] if rows else task[4][-1][0] if task[4] else 0
        row = some_row(source, world, task, rows, moment + source.choice((0, 0, 0, 1, 2)))
        if plain.reason(world, task, rows, row) is None:
            rows += (row,)
    return rows[:source.choice((len(rows), source.randint(0, len(rows))))]


def some_moment(source, world, task, rows):
    """A moment that makes a crawl of these, and the log with the open asks cut if there is no other way."""
    dues = [plain.outcome(world, where, asked)[0] for asked, where in plain.open_asks(rows)]
    last = rows[-1][0] if rows else task[4][-1][0] if task[4] else 0
    if dues and (min(dues) < last or rows[-1][2] == ("cut",)):
        rows += tuple((last, where, ("cut",)) for _, where in plain.open_asks(rows))
        dues = []
    return rows, source.randint(last, min(dues, default=last + 9))


def some_crawl(source, tries=30):
    """Any crawl, its log not made by steps."""
    world = some_world(source)
    task = some_task(source, world)
    log, moment = some_moment(source, world, task, some_log(source, world, task, source.choice((0, tries))))
    return world, task, log, moment
