"""Slow but plain ways to texts, worlds, logs and crawls, straight from the document."""

import re

from tests.helper import slow_meets, slow_polite

NAME = "[a-z]{1,12}"
PATH = "/[-./0-9_a-z]{0,39}"
ADDRESS = NAME + PATH
NUMERAL = "(?:0|[1-9][0-9]{0,11})"
MARK = "(?:0|[1-9][0-9]{0,5})"
LINKS = f"((?: {ADDRESS}){{0,6}})"
ASK, LOST, CUT, GONE = ("ask",), ("lost",), ("cut",), ("gone",)


def pieces_of(text):
    """The lines of a text with their line feeds; the last one may have none."""
    return re.findall("[^\n]*\n|[^\n]+", text)


def read_file(text):
    """("file", FILE) of a text, or ("wrong", INDEX)."""
    if not isinstance(text, str) or len(text) > 4000:
        return "wrong", None
    groups, ahead = [], ""
    for index, piece in enumerate(pieces_of(text)):
        line = " ".join(re.findall("[^ ]+", piece.split("#")[0].replace("\n", " ")))
        if not piece.endswith("\n") or (line and not file_line(groups, ahead, line)):
            return "wrong", index
        ahead = line or ahead
    return "file", tuple((tuple(n), tuple(p), tuple(m), o[0] if o else (1,)) for n, p, m, o in groups)


def file_line(groups, ahead, line):
    """Put a line into the groups; whether it is right there."""
    found = re.fullmatch("for ([a-z]{1,12}|[*])", line)
    if found:
        if any(found[1] in group[0] for group in groups):
            return False
        if not ahead.startswith("for "):
            groups.append(([], [], [], []))
        groups[-1][0].append(found[1])
        return len(groups) < 5 and len(groups[-1][0]) < 4
    if not groups:
        return False
    _, paths, limits, hours = groups[-1]
    if found := re.fullmatch("(bar|let) (/[-./0-9_a-z*]{0,11}|/[-./0-9_a-z*]{0,10}[$])", line):
        paths.append((found[1], found[2]))
        return len(paths) < 7 and sum(pattern.count("*") for _, pattern in paths) < 5
    if found := re.fullmatch("most ([1-6]) in ([1-9]|1[012])", line):
        limits.append((int(found[1]), int(found[2])))
        return len(limits) < 5
    if found := re.fullmatch("open ([01]{1,12})", line):
        hours.append(tuple(map(int, found[1])))
        return "1" in found[1] and len(hours) < 2
    return False


def address(text):
    house, path = text.split("/", 1)
    return house, "/" + path


def addresses(text):
    return tuple(address(word) for word in text.split())


def answer(text):
    """The answer of a line's words; None."""
    if found := re.fullmatch(f"page ({MARK}){LINKS}", text):
        return "page", int(found[1]), addresses(found[2])
    if found := re.fullmatch(f"(moved|same) ({ADDRESS})", text):
        return found[1], address(found[2])
    return GONE if text == "gone" else None


def row(line):
    """The row of a line; None."""
    found = re.fullmatch(f"({NUMERAL}) ([a-z]+) ({ADDRESS})( .*)?", line)
    if not found:
        return None
    moment, kind, asked, more = int(found[1]), found[2], address(found[3]), found[4] or ""
    event = (kind,) if kind in ("ask", "lost", "cut") and not more else answer(kind + more)
    return event and (moment, asked, event)


def read_log(text):
    """("log", LOG) of a text, or ("wrong", INDEX)."""
    rows = []
    for index, piece in enumerate(pieces_of(text)):
        rows.append(row(piece[:-1]) if piece.endswith("\n") else None)
        if rows[-1] is None:
            return "wrong", index
    return "log", tuple(rows)


def read_world(text):
    """("world", WORLD) of a text, or ("wrong", INDEX)."""
    houses, pieces, index = [], pieces_of(text), 0
    ahead = "page"
    while index < len(pieces):
        piece = pieces[index]
        if not piece.endswith("\n"):
            return "wrong", index
        if piece.startswith(" "):
            if ahead != "house":
                return "wrong", index
            block = [one[1:] for one in pieces[index:] if one.endswith("\n")]
            many = next((at for at, one in enumerate(pieces[index:]) if one[0] != " " or one[-1] != "\n"), len(block))
            kind, what = read_file("".join(block[:many]))
            if kind == "wrong":
                return "wrong", index + (what or 0)
            houses[-1][1] = what
            index, ahead = index + many, "file"
            continue
        kind = world_line(houses, ahead, piece[:-1])
        if kind is None:
            return "wrong", index
        index, ahead = index + 1, kind
    if ahead == "page" and houses:
        return "wrong", index
    return "world", tuple((name, file, delay, tuple(lost), tuple((path, tuple(rows)) for path, rows in pages))
                          for name, file, delay, lost, pages in houses)


def world_line(houses, ahead, line):
    """Put a line into the houses; its kind if it is right there, otherwise None."""
    if ahead == "page" and houses:
        return version_line(houses[-1][4][-1][1], line)
    if found := re.fullmatch(f"house ({NAME}) ([0-3])", line):
        fresh = found[1] not in [house[0] for house in houses] and len(houses) < 6
        houses.append([found[1], (), int(found[2]), [], []])
        return "house" if fresh else None
    if not houses:
        return None
    if found := re.fullmatch(f"lost((?: {NUMERAL}){{1,20}})", line):
        houses[-1][3] = list(map(int, found[1].split()))
        rising = houses[-1][3] == sorted(set(houses[-1][3]))
        return "lost" if rising and ahead in ("house", "file") else None
    pages = houses[-1][4]
    if found := re.fullmatch(f"page ({PATH})", line):
        fresh = found[1] not in [path for path, _ in pages] and len(pages) < 12
        pages.append((found[1], []))
        return "page" if fresh else None
    return version_line(pages[-1][1], line) if ahead == "version" else None


def version_line(versions, line):
    found = re.fullmatch(f"({NUMERAL}) (.+)", line)
    told = found and answer(found[2])
    if not told or len(versions) == 6 or (versions and versions[-1][0] >= int(found[1])):
        return None
    versions.append((int(found[1]), told))
    return "version"


def links(event):
    if event[0] == "page":
        return list(event[2])
    return [event[1]] if event[0] in ("moved", "same") else []


def house(world, name):
    return next((one for one in world if one[0] == name), (name, (), 0, (), ()))


def told(world, where, moment):
    """What is at an address at a moment."""
    what = GONE
    for path, versions in house(world, where[0])[4]:
        for since, one in versions:
            if path == where[1] and since <= moment:
                what = one
    return what


def outcome(world, where, moment):
    one = house(world, where[0])
    return moment + 1 + one[2], LOST if moment in one[3] else told(world, where, moment)


def group(world, crawler, name):
    """The path rows and the rules that a house has for the crawler."""
    file = house(world, name)[1]
    for size in range(len(crawler), -1, -1):
        for names, paths, limits, hours in file:
            if (crawler[:size] or "*") in names:
                return paths, (limits, hours)
    return (), ((), (1,))


def let(world, crawler, where):
    paths = group(world, crawler, where[0])[0]
    meeting = [(len(pattern), word == "let") for word, pattern in paths if slow_meets(pattern, where[1])]
    return max(meeting)[1] if meeting else True


def met(task, rows):
    """The addresses that are met, each with the place where it was met first."""
    places = {}
    for at, one in enumerate(task[1]):
        places.setdefault(one, (-1, at))
    for index, (_, _, event) in enumerate(rows):
        for at, one in enumerate(links(event)):
            places.setdefault(one, (index, at))
    return places


def open_asks(rows):
    asks = []
    for moment, where, event in rows:
        asks = asks + [(moment, where)] if event == ASK else [one for one in asks if one[1] != where]
    return asks


def count(rows, where, events):
    return sum(1 for _, one, event in rows if one == where and event[0] in events)


ANSWERS = ("page", "moved", "same", "gone")


def stands(world, task, rows, where):
    if where not in met(task, rows):
        return "unmet"
    if not let(world, task[0], where):
        return "barred"
    if where in [one for _, one in open_asks(rows)]:
        return "away"
    if count(rows, where, ANSWERS):
        return "answered"
    return "given up" if count(rows, where, ["lost"]) == task[3] + 1 else "waiting"


def waiting(world, task, rows):
    """The addresses that wait, by when each last came to wait."""
    came = {}
    for where, place in met(task, rows).items():
        if stands(world, task, rows, where) == "waiting":
            came[where] = max([place] + [(index, 0) for index, (_, one, event) in enumerate(rows)
                                         if one == where and event in (LOST, CUT)])
    return sorted(came, key=came.get)


def asks_of(task, rows, name):
    earlier = [moment for moment, one in task[4] if one == name]
    return tuple(earlier + [moment for moment, where, event in rows if where[0] == name and event == ASK])


def made(task, rows, moment):
    earlier = sum(1 for one, _ in task[4] if one == moment)
    return earlier + sum(1 for one, _, event in rows if one == moment and event == ASK)


def may_ask(world, task, rows, name, moment):
    return slow_polite(group(world, task[0], name)[1], asks_of(task, rows, name) + (moment,))


def reason(world, task, rows, one):
    """Why a row, right by its form, is wrong behind right rows; None."""
    moment, where, event = one
    ahead = rows[-1][0] if rows else task[4][-1][0] if task[4] else 0
    asks = open_asks(rows)
    if moment < ahead:
        return "back"
    if event != CUT and any(outcome(world, there, asked)[0] < moment for asked, there in asks):
        return "overdue"
    if event != CUT and rows and rows[-1][2] == CUT and asks:
        return "amid"
    mine = [asked for asked, there in asks if there == where]
    if event == ASK:
        place = stands(world, task, rows, where)
        if place != "waiting":
            return place
        if made(task, rows, moment) >= task[2]:
            return "many"
        return None if may_ask(world, task, rows, where[0], moment) else "impolite"
    if not mine:
        return "unasked"
    if event == CUT:
        return None
    due, what = outcome(world, where, mine[0])
    return "early" if due > moment else None if event == what else "untrue"


def step(world, task, rows, moment):
    """The rows that a step at a moment adds."""
    begun = len(rows)
    for asked, where in open_asks(rows):
        due, what = outcome(world, where, asked)
        if due == moment:
            rows = rows + ((moment, where, what),)
    for where in waiting(world, task, rows):
        if made(task, rows, moment) < task[2] and may_ask(world, task, rows, where[0], moment):
            rows = rows + ((moment, where, ASK),)
    return rows[begun:]


def rests(world, task, rows):
    return not waiting(world, task, rows) and not open_asks(rows)


def asks_left(world, task, rows):
    told_ones = set(task[1])
    for one in world:
        for _, versions in one[4]:
            told_ones.update(link for _, what in versions for link in links(what))
    left = 0
    for where in told_ones:
        if let(world, task[0], where) and not count(rows, where, ANSWERS):
            left += task[3] + 1 - count(rows, where, ["lost"]) - (where in [one for _, one in open_asks(rows)])
    return left
