"""The texts of worlds: printed, and read line by line."""

from gentlerounds.addresses import is_place
from gentlerounds.errors import InvalidLine
from gentlerounds.events import told_event, words_of_event
from gentlerounds.filetexts import LONGEST_TEXT, lines_of, read_file
from gentlerounds.names import is_name
from gentlerounds.numerals import number_of
from gentlerounds.values import is_between
from gentlerounds.worlds import LONGEST_DELAY, MOST_HOUSES, MOST_PAGES, MOST_VERSIONS
from gentlerounds.worlds import are_lost, check_world, is_version

BLANK = " "


def lines_of_house(house):
    """Return the lines of a house, without their line feeds."""
    name, file, delay, lost, pages = house
    lines = [f"house {name} {delay}"] + [BLANK + line for line in lines_of(file)]
    if lost:
        lines.append(BLANK.join(["lost"] + [str(moment) for moment in lost]))
    for path, versions in pages:
        lines.append(f"page {path}")
        lines.extend([BLANK.join([str(moment)] + words_of_event(answer)) for moment, answer in versions])
    return lines


def print_world(world):
    """Return the text of a world."""
    check_world(world)
    return "".join([line + "\n" for house in world for line in lines_of_house(house)])


def read_world(text):
    """Return the world that a text tells."""
    if not isinstance(text, str):
        raise InvalidLine(None)
    lines = text.split("\n")
    rest = lines.pop()
    reader = Reader(lines)
    houses = reader.houses()
    if rest:
        raise InvalidLine(len(lines))
    return houses


class Reader:
    """Goes through the lines of a world's text, and stands ahead of the line with the index `at`."""

    def __init__(self, lines):
        self.lines = lines
        self.at = 0

    def is_at_end(self):
        """Tell whether no line is left."""
        return self.at == len(self.lines)

    def words(self):
        """Return the words of the line ahead, none at the end."""
        return [] if self.is_at_end() else self.lines[self.at].split(BLANK)

    def houses(self):
        """Return the tuple of all houses; whatever a house can not take, a house has to begin with."""
        houses = []
        told = {}
        while not self.is_at_end():
            words = self.words()
            delay = delay_of(words)
            if delay is None or words[1] in told or len(houses) == MOST_HOUSES:
                raise InvalidLine(self.at)
            self.at += 1
            told[words[1]] = True
            file = self.file()
            lost = self.lost()
            houses.append((words[1], file, delay, lost, self.pages()))
        return tuple(houses)

    def file(self):
        """Return the file that the lines with a blank ahead tell."""
        first = self.at
        while not self.is_at_end() and self.lines[self.at].startswith(BLANK):
            self.at += 1
        text = "".join([line[1:] + "\n" for line in self.lines[first:self.at]])
        if len(text) > LONGEST_TEXT:
            raise InvalidLine(first)
        try:
            return read_file(text)
        except InvalidLine as wrong:
            raise InvalidLine(first + wrong.index) from None

    def lost(self):
        """Return the moments of the line ahead, if it tells those of lost asks, otherwise none."""
        words = self.words()
        moments = tuple([number_of(word) for word in words[1:]])
        if words[:1] != ["lost"] or not moments or not are_lost(moments):
            return ()
        self.at += 1
        return moments

    def pages(self):
        """Return the tuple of the pages that begin with the line ahead."""
        pages = []
        told = {}
        words = self.words()
        while is_page_line(words) and words[1] not in told and len(pages) < MOST_PAGES:
            self.at += 1
            told[words[1]] = True
            pages.append((words[1], self.versions()))
            words = self.words()
        return tuple(pages)

    def versions(self):
        """Return the tuple of the versions of a page, of which there has to be one."""
        versions = []
        version = version_of(self.words())
        while is_further(versions, version) and len(versions) < MOST_VERSIONS:
            self.at += 1
            versions.append(version)
            version = version_of(self.words())
        if not versions:
            raise InvalidLine(self.at)
        return tuple(versions)


def delay_of(words):
    """Return the delay that the line of a house tells; None for what is no such line."""
    if len(words) != 3 or words[0] != "house" or not is_name(words[1]):
        return None
    delay = number_of(words[2])
    return delay if is_between(delay, 0, LONGEST_DELAY) else None


def is_page_line(words):
    """Tell whether these are the words of a line that begins a page."""
    return len(words) == 2 and words[0] == "page" and is_place(words[1])


def version_of(words):
    """Return the version that a line tells; None for what is no such line."""
    if len(words) < 2:
        return None
    version = (number_of(words[0]), told_event(words[1], words[2:]))
    return version if is_version(version) else None


def is_further(versions, version):
    """Tell whether there is a version, and above those ahead of it."""
    if version is None:
        return False
    return not versions or versions[-1][0] < version[0]
