"""A slow but plain console, straight from the document."""

import re
from fractions import Fraction

from tests import plain, plainsetups

NUMBER = f"({plain.NUMERAL})"
BEGIN = 99999999999


def fraction_text(value):
    return str(value)


def told_fraction(text):
    """The fraction of a word; None."""
    found = re.fullmatch(f"{NUMBER}(?:/{NUMBER})?", text)
    if not found:
        return None
    pair = (int(found[1]), int(found[2] or 1))
    right = plainsetups.is_number(pair) and found[2] != "1"
    return pair if right else None


def told_setup(text):
    """The set-up of a text; None."""
    first, *rows = text.split(" ; ")
    head = re.fullmatch(f"most {NUMBER}", first)
    houses, pages = [], []
    for row in rows:
        if found := re.fullmatch(f"house((?: most {NUMBER} in {NUMBER})*) open ([01]+)", row):
            if pages:
                return None
            limits = re.findall(f"most {NUMBER} in {NUMBER}", found[1])
            houses.append((tuple((int(most), int(wide)) for most, wide in limits), tuple(map(int, found[4]))))
        elif found := re.fullmatch(f"page {NUMBER}((?: [0-9/]+)+)", row):
            pages.append((int(found[1]), tuple(told_fraction(word) for word in found[2].split())))
        else:
            return None
    setup = (tuple(houses), tuple(pages), int(head[1])) if head else None
    return setup if plainsetups.is_setup(setup) else None


def seal(text):
    return sum((at + 1) * ord(sign) for at, sign in enumerate(text)) % 999983


def lines_of(log):
    return [line_of(*row) for row in log]


def line_of(moment, address, event):
    words = [str(moment), event[0], "".join(address)]
    if event[0] == "page":
        words += [str(event[1])] + ["".join(link) for link in event[2]]
    return " ".join(words + ["".join(one) for one in event[1:] if event[0] in ("moved", "same")])


def journal_of(log):
    ahead = [f"{index} {line}" for index, line in enumerate(lines_of(log))]
    return "".join(f"{text} {seal(text)}\n" for text in ahead)


def last_moment(task, log):
    return max([moment for moment, _ in task[4]] + [row[0] for row in log] + [0])


def swept(crawl):
    """The next sweep of a crawl that rests."""
    world, (crawler, seeds, most, times, past), log, moment = crawl
    asks = past + tuple((at, address[0]) for at, address, event in log if event == plain.ASK)
    moved = {address: event[1] for _, address, event in log if event[0] == "moved"}
    further = []
    for seed in seeds:
        way = [seed]
        while way[-1] in moved and way[-1] not in way[:-1]:
            way.append(moved[way[-1]])
        end = seed if way[-1] in way[:-1] else way[-1]
        if end not in further:
            further.append(end)
    kept = tuple(one for one in asks if one[0] > moment - 12)
    return world, (crawler, tuple(further), most, times, kept), (), moment


class Console:
    def __init__(self):
        self.state = ((), None, None, None)
        self.earlier = []

    def say(self, line):
        """The answer to a line."""
        if line == "back":
            if not self.earlier:
                return "nothing there"
            self.state = self.earlier.pop()
            return "back"
        ahead = self.state
        answer = self.answer(line)
        if self.state != ahead:
            self.earlier = (self.earlier + [ahead])[-20:]
        return answer

    def put(self, **more):
        world, crawl, journal, setup = self.state
        names = {"world": world, "crawl": crawl, "journal": journal, "setup": setup, **more}
        self.state = tuple(names[name] for name in ("world", "crawl", "journal", "setup"))

    def stand(self, crawl):
        self.put(crawl=crawl, journal=None)
        world, task, log, moment = crawl
        asks, waiting = sum(1 for row in log if row[2] == plain.ASK), plain.waiting(world, task, log)
        away = plain.open_asks(log)
        rest = "" if waiting or away else ", at rest"
        return f"moment {moment}, {asks} asks, {len(waiting)} wait, {len(away)} away{rest}"

    def answer(self, line):
        if line == "world" or line.startswith("world "):
            return self.say_world(line)
        if found := re.fullmatch(f"crawl ([a-z]{{1,12}}) ([1-9]) ([0-3])((?: {plain.ADDRESS}){{0,8}})", line):
            task = (found[1], plain.addresses(found[4]), int(found[2]), int(found[3]), ())
            return self.stand((self.state[0], task, (), 0))
        if found := re.fullmatch(f"again {NUMBER}", line):
            return self.say_again(int(found[1]))
        if line.startswith("setup "):
            return self.say_setup(line[6:])
        if found := re.fullmatch("best ([0-9]|1[012])", line):
            if self.state[3] is None:
                return "no set-up"
            best = [Fraction(0)]
            sums = {one: Fraction(0) for one in plainsetups.walk(self.state[3])}
            for _ in range(int(found[1])):
                sums = {one: max(gain + sums[behind] for _, behind, gain in plainsetups.leads(self.state[3], one))
                        for one in sums}
            best = sums[plainsetups.begun(self.state[3])]
            return f"best {best}"
        if line == "journal" and self.state[2] is not None:
            return self.state[2] or "nothing"
        return self.answer_of_crawl(line)

    def say_world(self, line):
        if line == "world":
            told = ("world", ())
        else:
            told = plain.read_world(line[6:].replace(" ; ", "\n") + "\n")
        if told[0] == "wrong":
            return f"not read in line {told[1]}"
        self.put(world=told[1], crawl=None, journal=None)
        return f"{len(told[1])} houses"

    def say_setup(self, text):
        setup = told_setup(text)
        if setup is None:
            return "not a set-up"
        found = plainsetups.walk(setup, most=400)
        if found is None:
            return "too many"
        self.put(setup=setup)
        rate = plainsetups.rate(setup)
        gains = plainsetups.potentials(setup, rate)
        bound = gains[plainsetups.begun(setup)] - min(gains.values())
        return f"rate {rate}, bound {bound}, {len(found)} standings"

    def say_again(self, moment):
        world, crawl, journal, _ = self.state
        if journal is None:
            return "no cut"
        task = crawl[1]
        log = crawl[2][:journal.count("\n")]
        if moment > BEGIN or moment < last_moment(task, log):
            return "not now"
        cuts = tuple((moment, address, plain.CUT) for _, address in plain.open_asks(log))
        return self.stand((world, task, log + cuts, moment))

    def answer_of_crawl(self, line):
        _, crawl, journal, _ = self.state
        steps = re.fullmatch("go ([0-9]|[1-9][0-9]|[1-3][0-9][0-9]|400)", line)
        cut = re.fullmatch(f"cut {NUMBER} {NUMBER}", line)
        words = ("rest", "sweep", "log", "journal", "waiting", "barred", "copies", "judge")
        if not steps and not cut and line not in words:
            return "not understood"
        if crawl is None or journal is not None:
            return "no crawl"
        world, task, log, moment = crawl
        if cut:
            return self.say_cut(log, int(cut[1]), int(cut[2]))
        if line == "rest" or steps:
            many = int(steps[1]) if steps else -1
            while many if steps else not plain.rests(world, task, log):
                log, moment, many = log + plain.step(world, task, log, moment), moment + 1, many - 1
            return self.stand((world, task, log, moment))
        if line == "sweep":
            return self.stand(swept(crawl)) if plain.rests(world, task, log) else "not at rest"
        return "right" if line == "judge" else "\n".join(self.told(line, world, task, log)) or "nothing"

    def say_cut(self, log, rows, torn):
        lines = journal_of(log).split("\n")[:-1]
        if rows > len(lines) or torn > (len(lines[rows]) if rows < len(lines) else 0):
            return "not so"
        self.put(journal="".join(one + "\n" for one in lines[:rows]) + "".join(lines[rows:rows + 1])[:torn])
        return "cut"

    def told(self, word, world, task, log):
        """The lines of an answer about a crawl that goes on."""
        if word == "log":
            return lines_of(log)
        if word == "journal":
            return journal_of(log).split("\n")[:-1]
        if word == "waiting":
            return ["".join(one) for one in plain.waiting(world, task, log)]
        if word == "barred":
            return ["".join(one) for one in plain.met(task, log) if not plain.let(world, task[0], one)]
        pages = {}
        for at, (_, address, event) in enumerate(log):
            if event[0] == "page":
                asks = [moment for moment, one, what in log[:at] if one == address and what == plain.ASK]
                pages[address] = f"{''.join(address)} {event[1]} {asks[-1]}"
        return [pages[one] for one in sorted(pages)]
