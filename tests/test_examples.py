"""The examples of the document, as they stand there."""

import unittest

from tests.helper import run_examples

PATTERNS = r'''
>>> from gentlerounds.patterns import are_apart, body_of, covers, is_pattern, least_path, meets, next_places, places
>>> [is_pattern("/a*$"), is_pattern("a"), is_pattern("/$a"), is_pattern("$"), body_of("/a$"), body_of("/a")]
[True, False, False, False, '/a', '/a*']
>>> [meets("/a", "/abc"), meets("/a$", "/abc"), meets("/*.txt$", "/x/y.txt"), meets("/", "/")]
[True, False, True, True]
>>> [places("/*b", "/"), places("/*b", "/a"), places("/*b", "/ab"), next_places("/*b", (2, 3, 4), "c")]
[(1, 2), (2,), (2, 3, 4), (2, 4)]
>>> [least_path((), ()), least_path(("/*b",), ()), least_path(("/*b", "/a"), ()), least_path(("/*b",), ("/*b$",)), least_path(("/a",), ("/*",))]
['/', '/b', '/ab', '/b-', None]
>>> [covers("/*", "/a$"), covers("/a", "/a*b"), covers("/a*b", "/a"), are_apart("/a$", "/ab"), are_apart("/a", "/*b")]
[True, True, False, True, False]
'''

DECISIONS = r'''
>>> from gentlerounds.decisions import are_alike_paths, deciding, first_barred, first_decided, first_let, idle_rows, is_let_by, parting_path, path_table, takes_path_table
>>> shop = (("bar", "/"), ("let", "/open"), ("bar", "/*.tmp$"))
>>> [deciding(shop, "/a"), deciding(shop, "/open/x"), deciding(shop, "/open/x.tmp"), is_let_by(shop, "/open/x"), is_let_by(shop, "/open/x.tmp"), is_let_by((), "/a")]
[0, 1, 2, True, False, True]
>>> [deciding((("bar", "/a*"), ("let", "/*a")), "/a"), first_barred(shop), first_let(shop), parting_path(shop, shop[:2]), parting_path(shop[:1], ())]
[1, '/', '/open', '/open.tmp', '/']
>>> [idle_rows((("bar", "/a"), ("let", "/ab"), ("bar", "/a$"))), idle_rows((("bar", "/a*"), ("let", "/a"), ("bar", "/a"))), first_decided((("bar", "/a"), ("let", "/ab"), ("bar", "/a$")), 0)]
[(), (1, 2), '/a-']
>>> one, two = (("bar", "/a*"),), (("bar", "/a"),)
>>> table = ((((1,),), ((1,),)), (((2, 3, 4),), ((2, 3),)), (((3, 4),), ((3,),)), (((),), ((),)))
>>> [are_alike_paths(one, two), takes_path_table(one, two, table), takes_path_table(one, two, table[:3]), takes_path_table(one, two, path_table(one, two)), path_table(one, ())]
[True, True, False, True, None]
'''

LIMITS = r'''
>>> from gentlerounds.limits import are_limits, are_rules, first_wrong, is_open, is_polite, joined, may_ask, most, most_from, most_table, soonest, tidied, tidied_hours
>>> pair = (((2, 3),), (1,))
>>> [are_limits(((2, 3),)), are_limits(((0, 3),)), are_rules(((), (0, 0))), is_open((1, 0, 0), 6), is_open((1, 0, 0), 7)]
[True, False, False, True, False]
>>> [is_polite(pair, (0, 0, 3, 4)), first_wrong(pair, (0, 0, 3, 4)), first_wrong(pair, (0, 0, 2, 9)), first_wrong((((2, 3),), (1, 0)), (0, 1)), may_ask(pair, (0, 0), 2), may_ask(pair, (0, 0), 3)]
[True, None, 2, 1, False, True]
>>> [soonest(pair, (), 5), soonest((((1, 2), (2, 5)), (1,)), (), 5), soonest((((1, 1), (2, 4)), (1, 0, 0)), (), 4), soonest(pair, (0, 0, 4), 3, since=5), soonest(((), (1,)), (), 2)]
[(0, 0, 3, 3, 6), (0, 2, 5, 7, 10), (0, 3, 6, 9), (5, 7, 8), (0, 0)]
>>> [[most(((1, 2), (2, 5)), n) for n in (0, 1, 2, 3, 5, 6, 8)], most((), 3), most((), 0), most_from((((1, 2),), (0, 1)), 0, 3), most_from((((1, 2),), (0, 1)), 1, 3)]
[[0, 1, 1, 2, 2, 3, 4], None, 0, 1, 2]
>>> [tidied(((2, 6), (1, 3), (2, 4), (3, 12))), most_table(((3, 12), (1, 3))), joined(((1, 3),), ((3, 12), (2, 6))), tidied_hours((1, 0, 1, 0)), tidied_hours((1, 1, 0, 1))]
[((1, 3), (3, 12)), (1, 1, 1, 2, 2, 2, 3, 3, 3, 3, 3, 3), ((1, 3), (3, 12)), (1, 0), (1, 1, 0, 1)]
'''

MONITORS = r'''
>>> from gentlerounds.monitors import Monitor, are_counts, counts_at, lets, most_now, next_counts, wait
>>> both = (((2, 3), (3, 5)), (1,))
>>> [counts_at(both, (0, 0, 3), 4), counts_at(both, (), 9), are_counts(both[0], (1, 0, 0, 2)), are_counts(both[0], (2, 1, 0, 0)), are_counts((), ())]
[(1, 0, 0, 2), (0, 0, 0, 0), True, False, True]
>>> [most_now(both, 3, (0, 0, 2, 0)), lets(both, 3, (0, 0, 2, 0), 2), next_counts(both, 3, (0, 0, 2, 0), 1), wait(both, 1, (2, 0, 0, 0)), wait(both, 4, (1, 0, 0, 2)), most_now(((), (1,)), 0, ())]
[1, False, (1, 0, 0, 2), 2, 1, None]
>>> monitor = Monitor(both)
>>> [monitor.ask(0), monitor.lets(0), monitor.lets(0, 2), monitor.ask(0), monitor.asked, monitor.soonest(3), monitor.ask(3), monitor.counts, monitor.asked]
[None, True, False, None, 2, (3, 5, 6), None, (0, 0, 2, 0), 1]
>>> [monitor.undo(), monitor.moment, monitor.asked, monitor.counts]
[True, 0, 2, (0, 0, 0, 0)]
'''

SHARING = r'''
>>> from gentlerounds.limits import is_polite
>>> from gentlerounds.sharing import are_alike_limits, are_alike_rules, arrivals, breaking, dealt, is_stricter, keep, loose_row, most_crawlers
>>> alone = (((1, 2),), (1,))
>>> [is_stricter(alone, (((2, 4),), (1,))), is_stricter(alone, (((2, 5),), (1,))), is_polite(alone, loose_row(alone, (((2, 5),), (1,)))), is_polite((((2, 5),), (1,)), loose_row(alone, (((2, 5),), (1,))))]
[True, False, True, False]
>>> [is_stricter((((1, 3),), (1, 0)), (((2, 7),), (1,))), is_stricter((((1, 3),), (1,)), (((2, 7),), (1,))), are_alike_limits(((2, 6), (1, 3)), ((1, 3),)), are_alike_rules((((1, 3),), (1, 0)), (((1, 4),), (1, 0, 1, 0)))]
[True, False, True, True]
>>> crews = ((((1, 2),), 0), (((1, 2),), 1))
>>> [keep(crews, ((2, 2),)), keep(crews, ((3, 2),)), arrivals(crews, (((1, 1),), ((0, 1), (2, 2)))), breaking(crews, ((3, 2),)), len(breaking(crews, ((2, 2),)))]
[False, True, (1, 1, 2), None, 2]
>>> [dealt(((5, 4), (6, 10)), 3, 2), most_crawlers(((1, 3),), 3, ((4, 3),)), most_crawlers(((1, 3),), 0, ()), most_crawlers((), 0, ((6, 1),))]
[(((2, 6), (2, 12)), ((2, 6), (2, 12)), ((1, 6), (2, 12))), 2, None, 0]
>>> dealt(((1, 4),), 2, 0)
raises NoShare()
'''

FILES = r'''
>>> from gentlerounds.files import group_of, is_file, is_let, paths_of, reason, rules_of
>>> from gentlerounds.filetexts import print_file, read_file
>>> first = read_file("for gentle\nfor swift  # both\nbar /\n let /open\nmost 2 in 5\nopen 110\n\nfor *\nbar /*.tmp$\n")
>>> [first[0], first[1], print_file(first)]
[(('gentle', 'swift'), (('bar', '/'), ('let', '/open')), ((2, 5),), (1, 1, 0)), (('*',), (('bar', '/*.tmp$'),), (), (1,)), 'for gentle\nfor swift\nbar /\nlet /open\nmost 2 in 5\nopen 110\nfor *\nbar /*.tmp$\nopen 1\n']
>>> [is_file(first), is_file(first + first[:1]), group_of(first, "gentlebot"), group_of(first, "gent"), group_of(first[:1], "gent"), rules_of(first, "swift"), paths_of(first[:1], "slow"), rules_of((), "slow")]
[True, False, 0, 1, None, (((2, 5),), (1, 1, 0)), (), ((), (1,))]
>>> [is_let(first, "gentlebot", "/open/a"), is_let(first, "gentlebot", "/a"), reason(first, "gentlebot", "/a"), reason(first, "slow", "/a"), reason((), "slow", "/a"), read_file(""), print_file(())]
[True, False, (0, 0), (1, None), (None, None), (), '']
>>> read_file("bar /a\n")
raises InvalidLine(0)
>>> read_file("for a\nmost 7 in 3\n")
raises InvalidLine(1)
>>> read_file("for a\n\nfor a\n")
raises InvalidLine(2)
>>> read_file("for a\nbar /")
raises InvalidLine(1)
'''

# These go on from those of the files.
ALIKE_FILES = r'''
>>> from gentlerounds.alikefiles import are_alike_files, led_as, names_that_matter, parted_names, parting
>>> second = ((("*",), (), (), (1,)), (("gentle",), (("let", "/open"), ("bar", "/")), ((2, 5), (4, 10)), (1, 1, 0)))
>>> [names_that_matter(first, second), led_as(first, second, "gentler"), led_as(first, second, "slow"), parted_names(first, second), are_alike_files(first, second)]
[('a', 'gentle', 'swift'), 'gentle', 'a', ('a', 'swift'), False]
>>> [are_alike_files(second, second[::-1]), parting(second, second[::-1]), parting(second, second[:1]), parting(first, second)]
[True, None, ('gentle', '/'), ('a', '/.tmp')]
'''

WORLDS = r'''
>>> from gentlerounds.filetexts import read_file
>>> from gentlerounds.worlds import house_of, is_world, named, next_change, outcome_of, told_at
>>> mill = ("mill", (), 0, (), (("/a", ((0, ("page", 7, (("mill", "/b"), ("barn", "/x"), ("barn", "/no")))),)), ("/b", ((0, ("moved", ("barn", "/y"))), (5, ("gone",))))))
>>> barn = ("barn", read_file("for *\nbar /no\nmost 1 in 3\n"), 1, (4,), (("/x", ((0, ("page", 8, ())),)), ("/y", ((2, ("page", 9, (("mill", "/a"),))),))))
>>> world = (mill, barn)
>>> [is_world(world), is_world((mill, mill)), told_at(world, ("mill", "/b"), 4), told_at(world, ("barn", "/y"), 1), told_at(world, ("inn", "/"), 9)]
[True, False, ('moved', ('barn', '/y')), ('gone',), ('gone',)]
>>> [outcome_of(world, ("barn", "/y"), 4), outcome_of(world, ("barn", "/y"), 7), next_change(world, ("mill", "/b"), 0), next_change(world, ("mill", "/b"), 5), house_of(world, "inn")]
[(6, ('lost',)), (9, ('page', 9, (('mill', '/a'),))), 5, None, ('inn', (), 0, (), ())]
>>> named((barn,), (("inn", "/"),))
(('inn', '/'), ('mill', '/a'))
'''

# These go on from those of the worlds.
WORLD_TEXTS = r'''
>>> from gentlerounds.worldtexts import print_world, read_world
>>> print_world(world)
'house mill 0\npage /a\n0 page 7 mill/b barn/x barn/no\npage /b\n0 moved barn/y\n5 gone\nhouse barn 1\n for *\n bar /no\n most 1 in 3\n open 1\nlost 4\npage /x\n0 page 8\npage /y\n2 page 9 mill/a\n'
>>> [read_world(print_world(world)) == world, read_world(""), read_world("house inn 3\n # closed\n")]
[True, (), (('inn', (), 3, (), ()),)]
>>> read_world("house mill 0\npage /a\n")
raises InvalidLine(2)
>>> read_world("house mill 0\n for x\n most 7 in 3\nlost 1\n")
raises InvalidLine(2)
>>> read_world("house mill 0\npage /a\n5 gone\n5 gone\n")
raises InvalidLine(3)
>>> read_world("house mill 0\nlost 3\n for *\n")
raises InvalidLine(2)
'''

CRAWLS = r'''
>>> from gentlerounds.crawls import crawl_of, crawled, next_stir, next_sweep, rested, rests, step_rows, stepped
>>> from gentlerounds.frontier import asks_left, away, barred, house_asks, met, stands, waiting
>>> from gentlerounds.logjudge import first_wrong_row, is_crawl, is_right
>>> from gentlerounds.logs import is_row, log_text, read_log, read_row, row_line
>>> from gentlerounds.tasks import is_task, may_be_asked, rules_at
>>> begun_crawl = crawl_of(world, "ann", (("mill", "/a"),), most=2, times=1)
>>> [begun_crawl[1:], is_task(world, begun_crawl[1]), may_be_asked(world, "ann", ("barn", "/no")), rules_at(world, "ann", "barn"), step_rows(begun_crawl)]
[(('ann', (('mill', '/a'),), 2, 1, ()), (), 0), True, False, (((1, 3),), (1,)), ((0, ('mill', '/a'), ('ask',)),)]
>>> done = rested(begun_crawl)
>>> log_text(done[2])
'0 ask mill/a\n1 page mill/a 7 mill/b barn/x barn/no\n1 ask mill/b\n1 ask barn/x\n2 moved mill/b barn/y\n3 page barn/x 8\n4 ask barn/y\n6 lost barn/y\n7 ask barn/y\n9 page barn/y 9 mill/a\n'
>>> [done[3], rests(done), next_stir(done), is_crawl(done), read_log(log_text(done[2])) == done[2], crawled(begun_crawl, 10) == done, stepped(done)[3]]
[10, True, None, True, True, True, 11]
>>> amid = crawled(begun_crawl, 3)
>>> [met(amid), barred(amid), waiting(amid), away(amid), next_stir(crawled(begun_crawl, 8))]
[(('mill', '/a'), ('mill', '/b'), ('barn', '/x'), ('barn', '/no'), ('barn', '/y')), (('barn', '/no'),), (('barn', '/y'),), ((1, ('barn', '/x')),), 9]
>>> [stands(amid, ("mill", "/b")), stands(amid, ("barn", "/x")), stands(amid, ("barn", "/z")), house_asks(done, "barn"), asks_left(begun_crawl), asks_left(amid), asks_left(done)]
['answered', 'away', 'unmet', (1, 4, 7), 8, 3, 0]
>>> task, rows = done[1], done[2]
>>> [first_wrong_row(world, task, rows), first_wrong_row(world, task, rows[:1] + ((2,) + rows[1][1:],)), first_wrong_row(world, task, rows[:3] + ((2, ("barn", "/no"), ("ask",)),)), first_wrong_row(world, task, rows[:6] + ((3, ("barn", "/y"), ("ask",)),))]
[None, (1, 'overdue'), (3, 'barred'), (6, 'impolite')]
>>> [first_wrong_row(world, task, rows[:1] + ((1, ("mill", "/a"), ("gone",)),)), first_wrong_row(world, task, rows[:4] + ((2,) + rows[5][1:],)), first_wrong_row(world, task, rows[1:]), first_wrong_row(world, task, rows[:4] + rows[5:]), first_wrong_row(world, task, [])]
[(1, 'untrue'), (4, 'early'), (0, 'unasked'), (4, 'overdue'), (None, 'form')]
>>> [row_line(rows[7]), read_row("9 page barn/y 9 mill/a") == rows[9], is_row((0, ("mill", "/a"), ("cut",))), is_right(world, task, rows[:7])]
['6 lost barn/y', True, True, True]
>>> next_sweep(done)[1:]
(('ann', (('mill', '/a'),), 2, 1, ((0, 'mill'), (1, 'mill'), (1, 'barn'), (4, 'barn'), (7, 'barn'))), (), 10)
'''


class TestExamples(unittest.TestCase):
    def test_patterns(self):
        run_examples(self, PATTERNS)

    def test_decisions(self):
        run_examples(self, DECISIONS)

    def test_limits(self):
        run_examples(self, LIMITS)

    def test_monitors(self):
        run_examples(self, MONITORS)

    def test_sharing(self):
        run_examples(self, SHARING)

    def test_files(self):
        run_examples(self, FILES)

    def test_alike_files(self):
        run_examples(self, FILES + ALIKE_FILES)

    def test_worlds(self):
        run_examples(self, WORLDS)

    def test_world_texts(self):
        run_examples(self, WORLDS + WORLD_TEXTS)

    def test_crawls(self):
        run_examples(self, WORLDS + CRAWLS)


if __name__ == "__main__":
    unittest.main()
