import random
import unittest
from itertools import permutations, product

from gentlerounds import decisions
from gentlerounds.errors import InvalidNumber, InvalidPath, InvalidPaths
from gentlerounds.names import signs_of_paths
from tests.helper import (Echo, any_values, given, indexed, no_numbers, no_tuples, paths_over, refusals, slow_body,
                          slow_meets,
                          tells)

FEW = ("/", "/a", "/a$", "/*a", "/*", "/*$", "/b*a", "/ab", "/*b$", "/a*")
SHORT = paths_over("-ab", 5)
MET = {pattern: [slow_meets(pattern, path) for path in SHORT] for pattern in FEW}
NO_ROWS = any_values() + [(), ("bar",), ("bar", "/", "/"), ["bar", "/"], ("bar", "a"), ("bar", "/A"), ("Bar", "/"),
                          ("", "/"), ("barlet", "/"), (True, "/"), ("let", None), ("/", "let"), (("bar",), "/"),
                          ("bar", ("/",)), ("let ", "/"), ("ba", "/"), ("bar", "/" + "a" * 12), (b"let", "/"), "bar",
                          (Echo(), "/"), ("bar", Echo())]


def slow_choice(paths, is_met):
    """The index of the deciding row, of the rows that are met, as the document tells it."""
    rows = [index for index in range(len(paths)) if is_met(paths[index][1])]
    longest = max((len(paths[index][1]) for index in rows), default=0)
    rows = [index for index in rows if len(paths[index][1]) == longest]
    lets = [index for index in rows if paths[index][0] == "let"]
    return (lets or rows or [None])[0]


def slow_deciding(paths):
    """For each short path the index of its deciding row."""
    return [slow_choice(paths, lambda pattern: MET[pattern][at]) for at in range(len(SHORT))]


def is_barred(paths, index):
    return index is not None and paths[index][0] == "bar"


def first(flags):
    return next((path for path, flag in zip(SHORT, flags) if flag), None)


def some_rows(source, many):
    while True:
        rows = tuple((source.choice(("bar", "let")), source.choice(FEW)) for _ in range(many))
        if sum(pattern.count("*") for _, pattern in rows) <= 4:
            return rows


class TestDeciding(unittest.TestCase):
    def check(self, paths):
        rows = slow_deciding(paths)
        for place in range(0, len(SHORT), 7):
            self.assertEqual(decisions.deciding(paths, SHORT[place]), rows[place], (paths, SHORT[place]))
            self.assertIs(decisions.is_let_by(paths, SHORT[place]), not is_barred(paths, rows[place]))
        barred = [is_barred(paths, row) for row in rows]
        self.assertEqual(decisions.first_barred(paths), first(barred), paths)
        self.assertEqual(decisions.first_let(paths), first([not flag for flag in barred]), paths)
        firsts = [first([row == index for row in rows]) for index in range(len(paths))]
        self.assertEqual([decisions.first_decided(paths, index) for index in range(len(paths))], firsts, paths)
        idle = tuple(index for index, path in enumerate(firsts) if path is None)
        self.assertEqual(decisions.idle_rows(paths), idle, paths)
        self.assertIs(decisions.are_paths(paths), True)

    def test_few_rows(self):
        self.check(())
        rows = list(product(("bar", "let"), FEW))
        for row in rows:
            self.check((row,))
        for pair in product(rows, rows):
            self.check(pair)

    def test_more_rows(self):
        source = random.Random(3)
        for many in (3, 4, 5, 6) * 120:
            self.check(some_rows(source, many))

    def test_all_orders(self):
        source = random.Random(4)
        for _ in range(25):
            rows = some_rows(source, 4)
            barred = [is_barred(rows, row) for row in slow_deciding(rows)]
            for order in permutations(rows):
                self.assertEqual([not decisions.is_let_by(order, path) for path in SHORT[::5]], barred[::5])
                self.assertTrue(decisions.are_alike_paths(order, rows))

    def test_without_idle_rows(self):
        source = random.Random(5)
        for _ in range(60):
            rows = some_rows(source, 6)
            idle = decisions.idle_rows(rows)
            kept = tuple(index for index in range(6) if index not in idle)
            few = tuple(rows[index] for index in kept)
            for path in SHORT[::6]:
                index = decisions.deciding(few, path)
                self.assertEqual(None if index is None else kept[index], decisions.deciding(rows, path))

    def test_longer_ones(self):
        paths = (("let", "/a*b*c*d"), ("bar", "/abcd"), ("bar", "/" + "a" * 11), ("let", "/" + "a" * 10 + "$"),
                 ("bar", "/*"))
        self.assertEqual(decisions.deciding(paths, "/abcd"), 0)
        self.assertEqual(decisions.deciding(paths, "/abc"), 4)
        self.assertEqual(decisions.deciding(paths, "/" + "a" * 10), 3)
        self.assertEqual(decisions.deciding(paths, "/" + "a" * 300), 2)
        self.assertEqual(decisions.first_decided(paths, 2), "/" + "a" * 11)
        self.assertEqual(decisions.deciding((("bar", "/a$"), ("let", "/ab")), "/a"), 0)
        self.assertEqual(decisions.deciding((("let", "/a*"), ("bar", "/a$$"[:3])), "/a"), 0)
        self.assertEqual(decisions.first_let((("bar", "/"),)), None)
        self.assertEqual(decisions.first_barred((("let", "/"),)), None)
        self.assertEqual(decisions.first_let((("bar", "/*"), ("let", "/*.z$"))), "/.z")


class TestParting(unittest.TestCase):
    def test_parting_paths(self):
        source = random.Random(6)
        alike = 0
        for many in [(0, 1), (1, 0), (1, 1), (1, 2), (2, 1), (2, 2), (3, 2), (2, 3), (3, 3), (0, 0)] * 60:
            one, two = some_rows(source, many[0]), some_rows(source, many[1])
            rows = zip(slow_deciding(one), slow_deciding(two))
            told = first([is_barred(one, row) != is_barred(two, other) for row, other in rows])
            self.assertEqual(decisions.parting_path(one, two), told, (one, two))
            self.assertIs(decisions.are_alike_paths(one, two), told is None)
            table = decisions.path_table(one, two)
            self.assertEqual(table, decisions.path_table(one, two))
            if told is None:
                alike += 1
                self.assertTrue(slow_takes(one, two, table), (one, two))
                self.assertIs(decisions.takes_path_table(one, two, table), True)
            else:
                self.assertIsNone(table)
        self.assertGreater(alike, 60)


def slow_next(pattern, places, sign):
    """The places to which a sign leads, step by step as the document tells it."""
    body = slow_body(pattern)
    found = set()
    for place in places:
        if place < len(body) and body[place] == sign:
            found.add(place + 1)
        if body[place - 1] == "*":
            found.add(place)
    while any(place < len(body) and body[place] == "*" and place + 1 not in found for place in sorted(found)):
        found |= {place + 1 for place in found if place < len(body) and body[place] == "*"}
    return tuple(sorted(found))


def slow_begun(pattern):
    body = slow_body(pattern)
    return tuple(many for many in range(1, len(body) + 1) if not body[1:many].strip("*"))


def slow_barred(paths, standing):
    met = {pattern: len(slow_body(pattern)) in places for (_, pattern), places in zip(paths, standing)}
    return is_barred(paths, slow_choice(paths, lambda pattern: met[pattern]))


def slow_takes(one, two, table):
    """Whether the table, of pairs of standings, is closed, with both deciding alike at each pair."""
    if tuple(tuple(slow_begun(pattern) for _, pattern in paths) for paths in (one, two)) not in table:
        return False
    for pair in table:
        if slow_barred(one, pair[0]) != slow_barred(two, pair[1]):
            return False
        for sign in signs_of_paths():
            further = tuple(tuple(slow_next(row[1], places, sign) for row, places in zip(paths, standing))
                            for paths, standing in zip((one, two), pair))
            if further not in table:
                return False
    return True


class TestTables(unittest.TestCase):
    ROWS = [((), ()), ((("bar", "/a*"),), (("bar", "/a"),)), ((("let", "/*b"),), ()),
            ((("bar", "/"), ("let", "/ab")), (("let", "/ab"), ("bar", "/*"))),
            ((("bar", "/*a*$"), ("bar", "/b")), (("bar", "/b*"), ("bar", "/*a"))),
            ((("bar", "/a"), ("bar", "/a$")), (("bar", "/a"), ("let", "/-$"), ("let", "/b")))]

    def tables(self):
        for one, two in self.ROWS:
            table = decisions.path_table(one, two)
            self.assertTrue(slow_takes(one, two, table))
            yield one, two, table

    def test_other_orders_and_told_twice(self):
        for one, two, table in self.tables():
            for other in (table, table[::-1], table + table, table + table[-1:], table[1:] + table[:1]):
                self.assertIs(decisions.takes_path_table(one, two, other), True)

    def test_pairs_left_out_put_or_changed(self):
        for one, two, table in self.tables():
            for place, pair in enumerate(table):
                self.assertIs(decisions.takes_path_table(one, two, table[:place] + table[place + 1:]), False)
                for changed in (pair[::-1], pair[:1], pair + pair[:1], list(pair), (list(pair[0]), pair[1]), None,
                                (pair[0] + ((),), pair[1]), (pair[0], pair[1] + ((1,),)),
                                (pair[0][1:], pair[1] + pair[0][:1])):
                    if changed != pair:
                        self.assertIs(decisions.takes_path_table(one, two, table + (changed,)), False, changed)
                    if changed not in table:
                        self.assertIs(decisions.takes_path_table(one, two, put(table, place, changed)), False)

    def test_standings_that_no_path_has(self):
        source = random.Random(7)
        told = {True: 0, False: 0}
        for one, two, table in self.tables():
            for _ in range(150):
                more = [tuple(tuple(self.some_places(source, pattern) for _, pattern in paths) for paths in (one, two))]
                if source.random() < 0.7:
                    more = self.closed(one, two, more)
                value = table + tuple(more)
                right = slow_takes(one, two, value)
                told[right] += 1
                self.assertIs(decisions.takes_path_table(one, two, value), right, value)
        self.assertGreater(min(told.values()), 100)

    def some_places(self, source, pattern):
        return tuple(place for place in range(1, len(slow_body(pattern)) + 1) if source.random() < 0.4)

    def closed(self, one, two, pairs):
        for pair in pairs:
            for sign in "-/ab":
                further = tuple(tuple(slow_next(row[1], places, sign) for row, places in zip(paths, standing))
                                for paths, standing in zip((one, two), pair))
                if further not in pairs:
                    pairs.append(further)
        return pairs

    def test_places_out_of_order_or_bounds(self):
        one, two = (("bar", "/a*"),), (("bar", "/a"),)
        table = decisions.path_table(one, two)
        for places in ((0,), (5,), (0, 1), (4, 5), (2, 1), (1, 1), (True,), (2, 3, 3), (None,), ("1",), [1], ((1,),),
                       1, None,
                       "1", b"1", (-1,), (1, 2, 3, 4, 5), range(2)):
            self.assertIs(decisions.takes_path_table(one, two, table + (((places,), ((),)),)), False, places)
        for places in ((4,), (5,), (0,), (3, 2)):
            self.assertIs(decisions.takes_path_table(one, two, table + ((((),), (places,)),)), False, places)
        self.assertIs(decisions.takes_path_table(one, two, table + ((((3,),), ((2, 3),)),)), False)
        self.assertIs(decisions.takes_path_table(one, two, table + ((((4,),), ((3,),)),)), True)
        self.assertIs(decisions.takes_path_table(one, two, table + ((((1, 4),), ((1, 3),)),)), False)

    def test_places_told_out_of_order_or_twice(self):
        for one, two, table in self.tables():
            for pair in table:
                for side, standing in enumerate(pair):
                    for at, places in enumerate(standing):
                        for changed in (places[::-1], places + places, places[:1] + places, places + places[-1:]):
                            if changed != places:
                                value = put(pair, side, put(standing, at, changed))
                                self.assertIs(decisions.takes_path_table(one, two, table + (value,)), False, value)

    def test_places_beside_the_bounds(self):
        one, two = (("bar", "/a*"),), (("bar", "/a"),)
        table = decisions.path_table(one, two)
        # With 0 as a place this pair would lead to others of the table alone, and both let there.
        self.assertIs(decisions.takes_path_table(one, two, table + ((((0,),), ((0,),)),)), False)
        self.assertIs(decisions.takes_path_table(one, two, table + ((((1,),), ((),)), (((2, 3, 4),), ((),)))), False)
        self.assertIs(decisions.takes_path_table(one, two, table + ((((),), ((4,),)),)), False)

    def test_tables_of_parted_rows(self):
        one, two = (("bar", "/a"),), (("bar", "/b"),)
        full = [(((1,),), ((1,),)), (((2, 3),), ((),)), (((3,),), ((),)), (((),), ((2, 3),)), (((),), ((3,),)),
                (((),), ((),))]
        self.assertIs(decisions.takes_path_table(one, two, tuple(full)), False)
        self.assertIs(decisions.takes_path_table(one, (), tuple((pair[0], ()) for pair in full)), False)
        self.assertIs(decisions.takes_path_table((("let", "/a"),), (), tuple((pair[0], ()) for pair in full)), True)

    def test_any_value(self):
        for value in no_tuples() + any_values() + [(), ((),), (((), ()), None), (((), ()), [(), ()])]:
            self.assertIs(decisions.takes_path_table((), (), value), False, repr(value))
            self.assertIs(decisions.takes_path_table((("bar", "/"),), (), value), False, repr(value))
        self.assertIs(decisions.takes_path_table((), (), (((), ()),)), True)


def put(table, place, pair):
    return table[:place] + (pair,) + table[place + 1:]


class TestErrors(unittest.TestCase):
    STARS = (("bar", "/a*"), ("let", "/**"), ("bar", "/"), ("bar", "/*"), ("let", "/b"), ("let", "/$"))
    ROWS = [((("bar", "/"), row), 1) for row in NO_ROWS] + [((row,), 0) for row in NO_ROWS] + [
        ((("bar", "/"),) * 7, None), (STARS[:4] + (("let", "/*"),), 4), ((("bar", "/*****"),), 0), ((1,) * 7, None),
        (STARS[:4] + (("let", "/*"), 1), 4), (STARS[:4] + (1, ("let", "/*")), 4)]

    def test_are_paths(self):
        self.assertIs(decisions.are_paths(self.STARS), True)
        self.assertIs(decisions.are_paths((("bar", "/"),) * 6), True)
        self.assertIs(decisions.are_paths((("bar", "/****"),)), True)
        for value in no_tuples() + [row for row, _ in self.ROWS]:
            self.assertIs(decisions.are_paths(value), False)

    def test_errors(self):
        wrong = indexed(InvalidPaths, self.ROWS)
        ways = given(InvalidPath, any_values() + ["", "a", "/*", "/a$", "/A", b"/a"])
        places = given(InvalidNumber, no_numbers(0, 5))
        for call in (decisions.idle_rows, decisions.first_let, decisions.first_barred):
            refusals(self, call, [("paths", self.STARS)], {"paths": wrong})
        for call in (decisions.deciding, decisions.is_let_by):
            refusals(self, call, [("paths", self.STARS), ("path", "/a")], {"paths": wrong, "path": ways})
        refusals(self, decisions.first_decided, [("paths", self.STARS), ("index", 5)],
                 {"paths": wrong, "index": places})
        for call in (decisions.parting_path, decisions.are_alike_paths, decisions.path_table):
            refusals(self, call, [("paths", self.STARS), ("other", ())], {"paths": wrong, "other": wrong})
        refusals(self, decisions.takes_path_table, [("paths", self.STARS), ("other", ()), ("value", None)],
                 {"paths": wrong, "other": wrong})

    def test_no_index_of_no_rows(self):
        for index in (0, -1, 1, None, False):
            tells(self, InvalidNumber, index, lambda: decisions.first_decided((), index))


if __name__ == "__main__":
    unittest.main()
