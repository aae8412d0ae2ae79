"""The texts of rule files: read line by line, and printed."""

from gentlerounds.decisions import are_paths
from gentlerounds.errors import InvalidLine
from gentlerounds.files import MOST_GROUPS, MOST_NAMES, check_file, is_caller
from gentlerounds.limits import are_hours, are_limits
from gentlerounds.numerals import number_of

LONGEST_TEXT = 4000
REMARK = "#"


class Draft:
    """A file as far as its lines are taken: of each group its names, path rows and limits, and its hours or None."""

    def __init__(self):
        self.groups = []
        self.told = {}
        self.is_naming = False

    def take(self, words):
        """Take the words of a line that counts; tell whether it is right behind those ahead of it."""
        kind, rest = words[0], words[1:]
        if kind == "for":
            return self._take_name(rest)
        self.is_naming = False
        if not self.groups:
            return False
        if kind in ("bar", "let"):
            return self._take_path(kind, rest)
        if kind == "most":
            return self._take_limit(rest)
        return kind == "open" and self._take_hours(rest)

    def _take_name(self, rest):
        if len(rest) != 1 or not is_caller(rest[0]) or rest[0] in self.told:
            return False
        if not self.is_naming:
            self.groups.append([(), (), (), None])
            self.is_naming = True
        self.told[rest[0]] = True
        group = self.groups[-1]
        group[0] += (rest[0],)
        return len(self.groups) <= MOST_GROUPS and len(group[0]) <= MOST_NAMES

    def _take_path(self, kind, rest):
        if len(rest) != 1:
            return False
        group = self.groups[-1]
        group[1] += ((kind, rest[0]),)
        return are_paths(group[1])

    def _take_limit(self, rest):
        if len(rest) != 3 or rest[1] != "in":
            return False
        group = self.groups[-1]
        group[2] += ((number_of(rest[0]), number_of(rest[2])),)
        return are_limits(group[2])

    def _take_hours(self, rest):
        group = self.groups[-1]
        if len(rest) != 1 or group[3] is not None or not all(sign in "01" for sign in rest[0]):
            return False
        group[3] = tuple([int(sign) for sign in rest[0]])
        return are_hours(group[3])

    def file(self):
        """Return the file that the lines tell."""
        return tuple([(names, paths, limits, hours or (1,)) for names, paths, limits, hours in self.groups])


def words_of(line):
    """Return the words of a line, without those of a remark."""
    return [word for word in line.partition(REMARK)[0].split(" ") if word]


def read_file(text):
    """Return the file that a text tells."""
    if not isinstance(text, str) or len(text) > LONGEST_TEXT:
        raise InvalidLine(None)
    lines = text.split("\n")
    rest = lines.pop()
    draft = Draft()
    for index, line in enumerate(lines):
        words = words_of(line)
        if words and not draft.take(words):
            raise InvalidLine(index)
    if rest:
        raise InvalidLine(len(lines))
    return draft.file()


def lines_of(file):
    """Return the lines of the print of a file, without their line feeds."""
    lines = []
    for names, paths, limits, hours in file:
        lines.extend([f"for {name}" for name in names])
        lines.extend([f"{kind} {pattern}" for kind, pattern in paths])
        lines.extend([f"most {most} in {wide}" for most, wide in limits])
        lines.append("open " + "".join([str(hour) for hour in hours]))
    return lines


def print_file(file):
    """Return the print of a file."""
    check_file(file)
    return "".join([line + "\n" for line in lines_of(file)])
