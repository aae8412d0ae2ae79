"""Path rows: which row decides, which rows are idle, and which path rows are alike."""

from gentlerounds.checks import check_between
from gentlerounds.errors import InvalidPaths
from gentlerounds.names import check_path
from gentlerounds.patterns import MOST_STARS, body_of, is_pattern
from gentlerounds.standings import Machine, walked
from gentlerounds.values import is_between, is_tuple

MOST_PATHS = 6


def is_path_row(value):
    """Tell whether a value is a pair of a word and a pattern."""
    if not is_tuple(value, 2, 2):
        return False
    word, pattern = value
    return isinstance(word, str) and word in ("bar", "let") and is_pattern(pattern)


def fault_in_paths(value):
    """Return () for PATHS, otherwise a tuple of the index that InvalidPaths tells."""
    if not is_tuple(value, 0, MOST_PATHS):
        return (None,)
    stars = 0
    for index, row in enumerate(value):
        if not is_path_row(row):
            return (index,)
        stars += row[1].count("*")
        if stars > MOST_STARS:
            return (index,)
    return ()


def are_paths(value):
    """Tell whether a value is PATHS."""
    return not fault_in_paths(value)


def check_paths(given):
    """Raise InvalidPaths for what is no PATHS."""
    fault = fault_in_paths(given)
    if fault:
        raise InvalidPaths(fault[0])


def machine_of(paths):
    """Return a machine for the patterns of the rows."""
    return Machine([body_of(pattern) for _, pattern in paths])


def ranked(paths, ends):
    """Return for each row a triple (its end in a standing, its index, whether it bars), the first choice first."""
    order = sorted(range(len(paths)), key=lambda at: (-len(paths[at][1]), paths[at][0] == "bar", at))
    return [(ends[at], at, paths[at][0] == "bar") for at in order]


def decided(ranks, standing):
    """Return the index of the deciding row at a standing; None."""
    for end, index, _ in ranks:
        if standing & end:
            return index
    return None


def bars(ranks, standing):
    """Tell whether paths with this standing are barred."""
    for end, _, barring in ranks:
        if standing & end:
            return barring
    return False


def deciding(paths, path):
    """Return the index of the deciding row of a path; None."""
    check_paths(paths)
    check_path(path)
    machine = machine_of(paths)
    return decided(ranked(paths, machine.ends), machine.behind(path))


def is_let_by(paths, path):
    """Tell whether the path is let."""
    index = deciding(paths, path)
    return index is None or paths[index][0] == "let"


def first_decided(paths, index):
    """Return the least path whose deciding row has this index; None for an idle row."""
    check_paths(paths)
    check_between(index, 0, len(paths) - 1)
    machine = machine_of(paths)
    ranks = ranked(paths, machine.ends)
    return walked(machine, lambda standing: decided(ranks, standing) == index)[0]


def idle_rows(paths):
    """Return the ascending tuple of the indexes of all rows that decide no path."""
    check_paths(paths)
    return tuple([index for index in range(len(paths)) if first_decided(paths, index) is None])


def first_let(paths):
    """Return the least path that is let; None if there is none."""
    check_paths(paths)
    machine = machine_of(paths)
    ranks = ranked(paths, machine.ends)
    return walked(machine, lambda standing: not bars(ranks, standing))[0]


def first_barred(paths):
    """Return the least path that is barred; None if there is none."""
    return parting_path(paths, ())


class Pairing:
    """Two path rows side by side: one standing for the patterns of both."""

    def __init__(self, paths, other):
        self.machine = machine_of(paths + other)
        self.many = len(paths)
        self.ranks = ranked(paths, self.machine.ends[:self.many])
        self.other_ranks = ranked(other, self.machine.ends[self.many:])

    def parts(self, standing):
        """Tell whether just one of both bars the paths with this standing."""
        return bars(self.ranks, standing) != bars(self.other_ranks, standing)

    def pair_of(self, standing):
        """Return the pair of standings, as tuples of places, that this one stands for."""
        rows = [self.machine.places_of(standing, which) for which in range(len(self.machine.bodies))]
        return tuple(rows[:self.many]), tuple(rows[self.many:])

    def number_of(self, value):
        """Return the standing that a pair of standings tells, whatever the value is; None for no such pair."""
        if not is_tuple(value, 2, 2):
            return None
        first, second = value
        bodies = self.machine.bodies
        if not are_places(bodies[:self.many], first) or not are_places(bodies[self.many:], second):
            return None
        return self.machine.standing_of(first + second)


def are_places(bodies, value):
    """Tell whether a value has for each of the bodies an ascending tuple of numbers from 1 up to its length."""
    if not is_tuple(value, len(bodies), len(bodies)):
        return False
    return all([is_ascending(row, len(body)) for body, row in zip(bodies, value)])


def is_ascending(value, high):
    """Tell whether a value is an ascending tuple of whole numbers from 1 up to high."""
    if not is_tuple(value, 0, high):
        return False
    least = 1
    for place in value:
        if not is_between(place, least, high):
            return False
        least = place + 1
    return True


def parting_path(paths, other):
    """Return the least path that just one of both bars; None if they are alike."""
    check_paths(paths)
    check_paths(other)
    pairing = Pairing(paths, other)
    return walked(pairing.machine, lambda standing: pairing.parts(standing))[0]


def are_alike_paths(paths, other):
    """Tell whether both bar the same paths."""
    return parting_path(paths, other) is None


def path_table(paths, other):
    """Return a closed path table with only pairs at which both decide alike; None if they are not alike."""
    check_paths(paths)
    check_paths(other)
    pairing = Pairing(paths, other)
    path, standings = walked(pairing.machine, lambda standing: pairing.parts(standing))
    if path is not None:
        return None
    return tuple([pairing.pair_of(standing) for standing in standings])


def takes_path_table(paths, other, value):
    """Tell whether a value is a closed path table with only pairs at which both decide alike."""
    check_paths(paths)
    check_paths(other)
    if not isinstance(value, tuple):
        return False
    pairing = Pairing(paths, other)
    numbers = [pairing.number_of(pair) for pair in value]
    return None not in numbers and is_closed(pairing, numbers)


def is_closed(pairing, numbers):
    """Tell whether the standing of the path of one sign is there, each leads to one there, and none parts both."""
    machine = pairing.machine
    known = {number: True for number in numbers}
    if machine.begun() not in known:
        return False
    for standing in known:
        if pairing.parts(standing):
            return False
        if not all(machine.step(standing, sign) in known for sign in machine.signs):
            return False
    return True
