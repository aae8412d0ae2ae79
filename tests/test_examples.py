"""The examples of the document, as they stand there."""

import unittest

from tests.helper import run_examples

PATTERNS = r'''
>>> from gentlerounds.patterns import are_apart, body_of, covers, is_pattern, least_path, meets, next_places, places
>>> [is_pattern("/a*$"), is_pattern("a"), is_pattern("/$a"), is_pattern("$"), body_of("/a$"), body_of("/a")]
[True, False, False, False, '/a', '/a*']
>>> [meets("/a", "/abc"), meets("/a$", "/abc"), meets("/*.txt$", "/x/y.txt"), meets("/", "/")]
[True, False, True, True]
>>> [places("/*b", "/"), places("/*b", "/a"), places("/*b", "/ab"), next_places("/*b", (2, 3, 4), "c")]
[(1, 2), (2,), (2, 3, 4), (2, 4)]
>>> [least_path((), ()), least_path(("/*b",), ()), least_path(("/*b", "/a"), ()), least_path(("/*b",), ("/*b$",)), least_path(("/a",), ("/*",))]
['/', '/b', '/ab', '/b-', None]
>>> [covers("/*", "/a$"), covers("/a", "/a*b"), covers("/a*b", "/a"), are_apart("/a$", "/ab"), are_apart("/a", "/*b")]
[True, True, False, True, False]
'''

DECISIONS = r'''
>>> from gentlerounds.decisions import are_alike_paths, deciding, first_barred, first_decided, first_let, idle_rows, is_let_by, parting_path, path_table, takes_path_table
>>> shop = (("bar", "/"), ("let", "/open"), ("bar", "/*.tmp$"))
>>> [deciding(shop, "/a"), deciding(shop, "/open/x"), deciding(shop, "/open/x.tmp"), is_let_by(shop, "/open/x"), is_let_by(shop, "/open/x.tmp"), is_let_by((), "/a")]
[0, 1, 2, True, False, True]
>>> [deciding((("bar", "/a*"), ("let", "/*a")), "/a"), first_barred(shop), first_let(shop), parting_path(shop, shop[:2]), parting_path(shop[:1], ())]
[1, '/', '/open', '/open.tmp', '/']
>>> [idle_rows((("bar", "/a"), ("let", "/ab"), ("bar", "/a$"))), idle_rows((("bar", "/a*"), ("let", "/a"), ("bar", "/a"))), first_decided((("bar", "/a"), ("let", "/ab"), ("bar", "/a$")), 0)]
[(), (1, 2), '/a-']
>>> one, two = (("bar", "/a*"),), (("bar", "/a"),)
>>> table = ((((1,),), ((1,),)), (((2, 3, 4),), ((2, 3),)), (((3, 4),), ((3,),)), (((),), ((),)))
>>> [are_alike_paths(one, two), takes_path_table(one, two, table), takes_path_table(one, two, table[:3]), takes_path_table(one, two, path_table(one, two)), path_table(one, ())]
[True, True, False, True, None]
'''

LIMITS = r'''
>>> from gentlerounds.limits import are_limits, are_rules, first_wrong, is_open, is_polite, joined, may_ask, most, most_from, most_table, soonest, tidied, tidied_hours
>>> pair = (((2, 3),), (1,))
>>> [are_limits(((2, 3),)), are_limits(((0, 3),)), are_rules(((), (0, 0))), is_open((1, 0, 0), 6), is_open((1, 0, 0), 7)]
[True, False, False, True, False]
>>> [is_polite(pair, (0, 0, 3, 4)), first_wrong(pair, (0, 0, 3, 4)), first_wrong(pair, (0, 0, 2, 9)), first_wrong((((2, 3),), (1, 0)), (0, 1)), may_ask(pair, (0, 0), 2), may_ask(pair, (0, 0), 3)]
[True, None, 2, 1, False, True]
>>> [soonest(pair, (), 5), soonest((((1, 2), (2, 5)), (1,)), (), 5), soonest((((1, 1), (2, 4)), (1, 0, 0)), (), 4), soonest(pair, (0, 0, 4), 3, since=5), soonest(((), (1,)), (), 2)]
[(0, 0, 3, 3, 6), (0, 2, 5, 7, 10), (0, 3, 6, 9), (5, 7, 8), (0, 0)]
>>> [[most(((1, 2), (2, 5)), n) for n in (0, 1, 2, 3, 5, 6, 8)], most((), 3), most((), 0), most_from((((1, 2),), (0, 1)), 0, 3), most_from((((1, 2),), (0, 1)), 1, 3)]
[[0, 1, 1, 2, 2, 3, 4], None, 0, 1, 2]
>>> [tidied(((2, 6), (1, 3), (2, 4), (3, 12))), most_table(((3, 12), (1, 3))), joined(((1, 3),), ((3, 12), (2, 6))), tidied_hours((1, 0, 1, 0)), tidied_hours((1, 1, 0, 1))]
[((1, 3), (3, 12)), (1, 1, 1, 2, 2, 2, 3, 3, 3, 3, 3, 3), ((1, 3), (3, 12)), (1, 0), (1, 1, 0, 1)]
'''

MONITORS = r'''
>>> from gentlerounds.monitors import Monitor, are_counts, counts_at, lets, most_now, next_counts, wait
>>> both = (((2, 3), (3, 5)), (1,))
>>> [counts_at(both, (0, 0, 3), 4), counts_at(both, (), 9), are_counts(both[0], (1, 0, 0, 2)), are_counts(both[0], (2, 1, 0, 0)), are_counts((), ())]
[(1, 0, 0, 2), (0, 0, 0, 0), True, False, True]
>>> [most_now(both, 3, (0, 0, 2, 0)), lets(both, 3, (0, 0, 2, 0), 2), next_counts(both, 3, (0, 0, 2, 0), 1), wait(both, 1, (2, 0, 0, 0)), wait(both, 4, (1, 0, 0, 2)), most_now(((), (1,)), 0, ())]
[1, False, (1, 0, 0, 2), 2, 1, None]
>>> monitor = Monitor(both)
>>> [monitor.ask(0), monitor.lets(0), monitor.lets(0, 2), monitor.ask(0), monitor.asked, monitor.soonest(3), monitor.ask(3), monitor.counts, monitor.asked]
[None, True, False, None, 2, (3, 5, 6), None, (0, 0, 2, 0), 1]
>>> [monitor.undo(), monitor.moment, monitor.asked, monitor.counts]
[True, 0, 2, (0, 0, 0, 0)]
'''

SHARING = r'''
>>> from gentlerounds.limits import is_polite
>>> from gentlerounds.sharing import are_alike_limits, are_alike_rules, arrivals, breaking, dealt, is_stricter, keep, loose_row, most_crawlers
>>> alone = (((1, 2),), (1,))
>>> [is_stricter(alone, (((2, 4),), (1,))), is_stricter(alone, (((2, 5),), (1,))), is_polite(alone, loose_row(alone, (((2, 5),), (1,)))), is_polite((((2, 5),), (1,)), loose_row(alone, (((2, 5),), (1,))))]
[True, False, True, False]
>>> [is_stricter((((1, 3),), (1, 0)), (((2, 7),), (1,))), is_stricter((((1, 3),), (1,)), (((2, 7),), (1,))), are_alike_limits(((2, 6), (1, 3)), ((1, 3),)), are_alike_rules((((1, 3),), (1, 0)), (((1, 4),), (1, 0, 1, 0)))]
[True, False, True, True]
>>> crews = ((((1, 2),), 0), (((1, 2),), 1))
>>> [keep(crews, ((2, 2),)), keep(crews, ((3, 2),)), arrivals(crews, (((1, 1),), ((0, 1), (2, 2)))), breaking(crews, ((3, 2),)), len(breaking(crews, ((2, 2),)))]
[False, True, (1, 1, 2), None, 2]
>>> [dealt(((5, 4), (6, 10)), 3, 2), most_crawlers(((1, 3),), 3, ((4, 3),)), most_crawlers(((1, 3),), 0, ()), most_crawlers((), 0, ((6, 1),))]
[(((2, 6), (2, 12)), ((2, 6), (2, 12)), ((1, 6), (2, 12))), 2, None, 0]
>>> dealt(((1, 4),), 2, 0)
raises NoShare()
'''

# In the document the file of these is read from a text.
FILES = r'''
>>> from gentlerounds.files import group_of, is_file, is_let, paths_of, reason, rules_of
>>> first = ((("gentle", "swift"), (("bar", "/"), ("let", "/open")), ((2, 5),), (1, 1, 0)), (("*",), (("bar", "/*.tmp$"),), (), (1,)))
>>> [is_file(first), is_file(first + first[:1]), group_of(first, "gentlebot"), group_of(first, "gent"), group_of(first[:1], "gent"), rules_of(first, "swift"), paths_of(first[:1], "slow"), rules_of((), "slow")]
[True, False, 0, 1, None, (((2, 5),), (1, 1, 0)), (), ((), (1,))]
>>> [is_let(first, "gentlebot", "/open/a"), is_let(first, "gentlebot", "/a"), reason(first, "gentlebot", "/a"), reason(first, "slow", "/a"), reason((), "slow", "/a")]
[True, False, (0, 0), (1, None), (None, None)]
'''


class TestExamples(unittest.TestCase):
    def test_patterns(self):
        run_examples(self, PATTERNS)

    def test_decisions(self):
        run_examples(self, DECISIONS)

    def test_limits(self):
        run_examples(self, LIMITS)

    def test_monitors(self):
        run_examples(self, MONITORS)

    def test_sharing(self):
        run_examples(self, SHARING)

    def test_files(self):
        run_examples(self, FILES)


if __name__ == "__main__":
    unittest.main()
