"""Rule files: the group of a crawler, what it may ask for, and by which row."""

from gentlerounds.decisions import are_paths, deciding, is_let_by
from gentlerounds.errors import InvalidFile
from gentlerounds.limits import are_hours, are_limits
from gentlerounds.names import check_name, is_name
from gentlerounds.values import is_tuple

ANYONE = "*"
MOST_GROUPS = 4
MOST_NAMES = 3


def is_caller(value):
    """Tell whether a value may stand in NAMES: a name, or the star for anyone."""
    return is_name(value) or isinstance(value, str) and value == ANYONE


def is_group(value):
    """Tell whether a value is a group, by itself."""
    if not is_tuple(value, 4, 4):
        return False
    names, paths, limits, hours = value
    if not is_tuple(names, 1, MOST_NAMES) or not all(is_caller(name) for name in names):
        return False
    return are_paths(paths) and are_limits(limits) and are_hours(hours)


def fault_in_file(value):
    """Return () for a file, otherwise a tuple of the index that InvalidFile tells."""
    if not is_tuple(value, 0, MOST_GROUPS):
        return (None,)
    told = {}
    for index, group in enumerate(value):
        if not is_group(group):
            return (index,)
        for name in group[0]:
            if name in told:
                return (index,)
            told[name] = True
    return ()


def is_file(value):
    """Tell whether a value is a file."""
    return not fault_in_file(value)


def check_file(given):
    """Raise InvalidFile for what is no file."""
    fault = fault_in_file(given)
    if fault:
        raise InvalidFile(fault[0])


def group_of(file, crawler):
    """Return the index of the crawler's group; None."""
    check_file(file)
    check_name(crawler)
    best = None
    length = -1
    for index, group in enumerate(file):
        for name in group[0]:
            # The star begins every name, but any name that does goes ahead of it.
            start = "" if name == ANYONE else name
            if crawler.startswith(start) and len(start) > length:
                best = index
                length = len(start)
    return best


def paths_of(file, crawler):
    """Return the path rows that hold for the crawler."""
    index = group_of(file, crawler)
    return () if index is None else file[index][1]


def rules_of(file, crawler):
    """Return the limits and hours that hold for the crawler."""
    index = group_of(file, crawler)
    return ((), (1,)) if index is None else file[index][2:]


def is_let(file, crawler, path):
    """Tell whether the path is let for the crawler."""
    return is_let_by(paths_of(file, crawler), path)


def reason(file, crawler, path):
    """Return the pair of the index of the crawler's group and that of the row that decides the path."""
    index = group_of(file, crawler)
    return index, deciding(paths_of(file, crawler), path)
