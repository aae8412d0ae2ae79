"""Standings of paths for several bodies of patterns, each standing kept as one number."""

from gentlerounds.names import SIGNS


class Machine:
    """Goes along paths, sign by sign, for all bodies of a list at once.

    A standing has one run of bits for each body, one bit for each place from 0 up to the
    body's length: so one step is a shift for all places of all bodies together.
    """

    def __init__(self, bodies):
        self.bodies = bodies
        self.starts = []
        self.ends = []
        self.stars = 0
        self.held = 0
        self.moves = {}
        first = 0
        for body in bodies:
            self.starts.append(first)
            self.ends.append(1 << (first + len(body)))
            self._take(body, first)
            first += len(body) + 1
        self.signs = self._telling_signs()

    def _take(self, body, first):
        for place, sign in enumerate(body, start=first):
            bit = 1 << place
            if sign == "*":
                self.stars |= bit
                self.held |= bit << 1
            else:
                self.moves[sign] = self.moves.get(sign, 0) | bit

    def _telling_signs(self):
        # All signs that stand in no body lead alike, so the least of them stands for them.
        others = [sign for sign in SIGNS if sign not in self.moves]
        return sorted(list(self.moves) + others[:1])

    def _closed(self, standing):
        grown = standing | ((standing & self.stars) << 1)
        while grown != standing:
            standing = grown
            grown = standing | ((standing & self.stars) << 1)
        return standing

    def step(self, standing, sign):
        """Return the standing of a path with a sign behind it."""
        moved = (standing & self.moves.get(sign, 0)) << 1
        return self._closed(moved | (standing & self.held))

    def begun(self):
        """Return the standing of the path of one sign."""
        return self.step(sum([1 << first for first in self.starts]), "/")

    def behind(self, path):
        """Return the standing of a path."""
        standing = self.begun()
        for sign in path[1:]:
            standing = self.step(standing, sign)
        return standing

    def places_of(self, standing, which):
        """Return the ascending tuple of the places for the body with the index which."""
        first = self.starts[which]
        many = len(self.bodies[which]) + 1
        return tuple([place for place in range(many) if standing >> (first + place) & 1])

    def standing_of(self, rows):
        """Return the standing with these places, one row of places for each body."""
        standing = 0
        for first, row in zip(self.starts, rows):
            for place in row:
                standing |= 1 << (first + place)
        return standing


def walked(machine, is_wanted):
    """Return the least path whose standing is wanted, or None, and the list of the standings gone through."""
    queue = [machine.begun()]
    least = {queue[0]: "/"}
    done = 0
    # Shorter paths come first, and those as short in their order, so each path kept is the least of its standing.
    while done < len(queue):
        standing = queue[done]
        done += 1
        if is_wanted(standing):
            return least[standing], queue[:done]
        for sign in machine.signs:
            further = machine.step(standing, sign)
            if further not in least:
                least[further] = least[standing] + sign
                queue.append(further)
    return None, queue
