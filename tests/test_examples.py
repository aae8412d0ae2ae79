"""The examples of the document, as they stand there."""

import unittest

from tests.helper import run_examples

PATTERNS = r'''
>>> from gentlerounds.patterns import are_apart, body_of, covers, is_pattern, least_path, meets, next_places, places
>>> [is_pattern("/a*$"), is_pattern("a"), is_pattern("/$a"), is_pattern("$"), body_of("/a$"), body_of("/a")]
[True, False, False, False, '/a', '/a*']
>>> [meets("/a", "/abc"), meets("/a$", "/abc"), meets("/*.txt$", "/x/y.txt"), meets("/", "/")]
[True, False, True, True]
>>> [places("/*b", "/"), places("/*b", "/a"), places("/*b", "/ab"), next_places("/*b", (2, 3, 4), "c")]
[(1, 2), (2,), (2, 3, 4), (2, 4)]
>>> [least_path((), ()), least_path(("/*b",), ()), least_path(("/*b", "/a"), ()), least_path(("/*b",), ("/*b$",)), least_path(("/a",), ("/*",))]
['/', '/b', '/ab', '/b-', None]
>>> [covers("/*", "/a$"), covers("/a", "/a*b"), covers("/a*b", "/a"), are_apart("/a$", "/ab"), are_apart("/a", "/*b")]
[True, True, False, True, False]
'''

DECISIONS = r'''
>>> from gentlerounds.decisions import are_alike_paths, deciding, first_barred, first_decided, first_let, idle_rows, is_let_by, parting_path, path_table, takes_path_table
>>> shop = (("bar", "/"), ("let", "/open"), ("bar", "/*.tmp$"))
>>> [deciding(shop, "/a"), deciding(shop, "/open/x"), deciding(shop, "/open/x.tmp"), is_let_by(shop, "/open/x"), is_let_by(shop, "/open/x.tmp"), is_let_by((), "/a")]
[0, 1, 2, True, False, True]
>>> [deciding((("bar", "/a*"), ("let", "/*a")), "/a"), first_barred(shop), first_let(shop), parting_path(shop, shop[:2]), parting_path(shop[:1], ())]
[1, '/', '/open', '/open.tmp', '/']
>>> [idle_rows((("bar", "/a"), ("let", "/ab"), ("bar", "/a$"))), idle_rows((("bar", "/a*"), ("let", "/a"), ("bar", "/a"))), first_decided((("bar", "/a"), ("let", "/ab"), ("bar", "/a$")), 0)]
[(), (1, 2), '/a-']
>>> one, two = (("bar", "/a*"),), (("bar", "/a"),)
>>> table = ((((1,),), ((1,),)), (((2, 3, 4),), ((2, 3),)), (((3, 4),), ((3,),)), (((),), ((),)))
>>> [are_alike_paths(one, two), takes_path_table(one, two, table), takes_path_table(one, two, table[:3]), takes_path_table(one, two, path_table(one, two)), path_table(one, ())]
[True, True, False, True, None]
'''

LIMITS = r'''
>>> from gentlerounds.limits import are_limits, are_rules, first_wrong, is_open, is_polite, joined, may_ask, most, most_from, most_table, soonest, tidied, tidied_hours
>>> pair = (((2, 3),), (1,))
>>> [are_limits(((2, 3),)), are_limits(((0, 3),)), are_rules(((), (0, 0))), is_open((1, 0, 0), 6), is_open((1, 0, 0), 7)]
[True, False, False, True, False]
>>> [is_polite(pair, (0, 0, 3, 4)), first_wrong(pair, (0, 0, 3, 4)), first_wrong(pair, (0, 0, 2, 9)), first_wrong((((2, 3),), (1, 0)), (0, 1)), may_ask(pair, (0, 0), 2), may_ask(pair, (0, 0), 3)]
[True, None, 2, 1, False, True]
>>> [soonest(pair, (), 5), soonest((((1, 2), (2, 5)), (1,)), (), 5), soonest((((1, 1), (2, 4)), (1, 0, 0)), (), 4), soonest(pair, (0, 0, 4), 3, since=5), soonest(((), (1,)), (), 2)]
[(0, 0, 3, 3, 6), (0, 2, 5, 7, 10), (0, 3, 6, 9), (5, 7, 8), (0, 0)]
>>> [[most(((1, 2), (2, 5)), n) for n in (0, 1, 2, 3, 5, 6, 8)], most((), 3), most((), 0), most_from((((1, 2),), (0, 1)), 0, 3), most_from((((1, 2),), (0, 1)), 1, 3)]
[[0, 1, 1, 2, 2, 3, 4], None, 0, 1, 2]
>>> [tidied(((2, 6), (1, 3), (2, 4), (3, 12))), most_table(((3, 12), (1, 3))), joined(((1, 3),), ((3, 12), (2, 6))), tidied_hours((1, 0, 1, 0)), tidied_hours((1, 1, 0, 1))]
[((1, 3), (3, 12)), (1, 1, 1, 2, 2, 2, 3, 3, 3, 3, 3, 3), ((1, 3), (3, 12)), (1, 0), (1, 1, 0, 1)]
'''

MONITORS = r'''
>>> from gentlerounds.monitors import Monitor, are_counts, counts_at, lets, most_now, next_counts, wait
>>> both = (((2, 3), (3, 5)), (1,))
>>> [counts_at(both, (0, 0, 3), 4), counts_at(both, (), 9), are_counts(both[0], (1, 0, 0, 2)), are_counts(both[0], (2, 1, 0, 0)), are_counts((), ())]
[(1, 0, 0, 2), (0, 0, 0, 0), True, False, True]
>>> [most_now(both, 3, (0, 0, 2, 0)), lets(both, 3, (0, 0, 2, 0), 2), next_counts(both, 3, (0, 0, 2, 0), 1), wait(both, 1, (2, 0, 0, 0)), wait(both, 4, (1, 0, 0, 2)), most_now(((), (1,)), 0, ())]
[1, False, (1, 0, 0, 2), 2, 1, None]
>>> monitor = Monitor(both)
>>> [monitor.ask(0), monitor.lets(0), monitor.lets(0, 2), monitor.ask(0), monitor.asked, monitor.soonest(3), monitor.ask(3), monitor.counts, monitor.asked]
[None, True, False, None, 2, (3, 5, 6), None, (0, 0, 2, 0), 1]
>>> [monitor.undo(), monitor.moment, monitor.asked, monitor.counts]
[True, 0, 2, (0, 0, 0, 0)]
'''

SHARING = r'''
>>> from gentlerounds.limits import is_polite
>>> from gentlerounds.sharing import are_alike_limits, are_alike_rules, arrivals, breaking, dealt, is_stricter, keep, loose_row, most_crawlers
>>> alone = (((1, 2),), (1,))
>>> [is_stricter(alone, (((2, 4),), (1,))), is_stricter(alone, (((2, 5),), (1,))), is_polite(alone, loose_row(alone, (((2, 5),), (1,)))), is_polite((((2, 5),), (1,)), loose_row(alone, (((2, 5),), (1,))))]
[True, False, True, False]
>>> [is_stricter((((1, 3),), (1, 0)), (((2, 7),), (1,))), is_stricter((((1, 3),), (1,)), (((2, 7),), (1,))), are_alike_limits(((2, 6), (1, 3)), ((1, 3),)), are_alike_rules((((1, 3),), (1, 0)), (((1, 4),), (1, 0, 1, 0)))]
[True, False, True, True]
>>> crews = ((((1, 2),), 0), (((1, 2),), 1))
>>> [keep(crews, ((2, 2),)), keep(crews, ((3, 2),)), arrivals(crews, (((1, 1),), ((0, 1), (2, 2)))), breaking(crews, ((3, 2),)), len(breaking(crews, ((2, 2),)))]
[False, True, (1, 1, 2), None, 2]
>>> [dealt(((5, 4), (6, 10)), 3, 2), most_crawlers(((1, 3),), 3, ((4, 3),)), most_crawlers(((1, 3),), 0, ()), most_crawlers((), 0, ((6, 1),))]
[(((2, 6), (2, 12)), ((2, 6), (2, 12)), ((1, 6), (2, 12))), 2, None, 0]
>>> dealt(((1, 4),), 2, 0)
raises NoShare()
'''

FILES = r'''
>>> from gentlerounds.files import group_of, is_file, is_let, paths_of, reason, rules_of
>>> from gentlerounds.filetexts import print_file, read_file
>>> first = read_file("for gentle\nfor swift  # both\nbar /\n let /open\nmost 2 in 5\nopen 110\n\nfor *\nbar /*.tmp$\n")
>>> [first[0], first[1], print_file(first)]
[(('gentle', 'swift'), (('bar', '/'), ('let', '/open')), ((2, 5),), (1, 1, 0)), (('*',), (('bar', '/*.tmp$'),), (), (1,)), 'for gentle\nfor swift\nbar /\nlet /open\nmost 2 in 5\nopen 110\nfor *\nbar /*.tmp$\nopen 1\n']
>>> [is_file(first), is_file(first + first[:1]), group_of(first, "gentlebot"), group_of(first, "gent"), group_of(first[:1], "gent"), rules_of(first, "swift"), paths_of(first[:1], "slow"), rules_of((), "slow")]
[True, False, 0, 1, None, (((2, 5),), (1, 1, 0)), (), ((), (1,))]
>>> [is_let(first, "gentlebot", "/open/a"), is_let(first, "gentlebot", "/a"), reason(first, "gentlebot", "/a"), reason(first, "slow", "/a"), reason((), "slow", "/a"), read_file(""), print_file(())]
[True, False, (0, 0), (1, None), (None, None), (), '']
>>> read_file("bar /a\n")
raises InvalidLine(0)
>>> read_file("for a\nmost 7 in 3\n")
raises InvalidLine(1)
>>> read_file("for a\n\nfor a\n")
raises InvalidLine(2)
>>> read_file("for a\nbar /")
raises InvalidLine(1)
'''

# These go on from those of the files.
ALIKE_FILES = r'''
>>> from gentlerounds.alikefiles import are_alike_files, led_as, names_that_matter, parted_names, parting
>>> second = ((("*",), (), (), (1,)), (("gentle",), (("let", "/open"), ("bar", "/")), ((2, 5), (4, 10)), (1, 1, 0)))
>>> [names_that_matter(first, second), led_as(first, second, "gentler"), led_as(first, second, "slow"), parted_names(first, second), are_alike_files(first, second)]
[('a', 'gentle', 'swift'), 'gentle', 'a', ('a', 'swift'), False]
>>> [are_alike_files(second, second[::-1]), parting(second, second[::-1]), parting(second, second[:1]), parting(first, second)]
[True, None, ('gentle', '/'), ('a', '/.tmp')]
'''

WORLDS = r'''
>>> from gentlerounds.filetexts import read_file
>>> from gentlerounds.worlds import house_of, is_world, named, next_change, outcome_of, told_at
>>> mill = ("mill", (), 0, (), (("/a", ((0, ("page", 7, (("mill", "/b"), ("barn", "/x"), ("barn", "/no")))),)), ("/b", ((0, ("moved", ("barn", "/y"))), (5, ("gone",))))))
>>> barn = ("barn", read_file("for *\nbar /no\nmost 1 in 3\n"), 1, (4,), (("/x", ((0, ("page", 8, ())),)), ("/y", ((2, ("page", 9, (("mill", "/a"),))),))))
>>> world = (mill, barn)
>>> [is_world(world), is_world((mill, mill)), told_at(world, ("mill", "/b"), 4), told_at(world, ("barn", "/y"), 1), told_at(world, ("inn", "/"), 9)]
[True, False, ('moved', ('barn', '/y')), ('gone',), ('gone',)]
>>> [outcome_of(world, ("barn", "/y"), 4), outcome_of(world, ("barn", "/y"), 7), next_change(world, ("mill", "/b"), 0), next_change(world, ("mill", "/b"), 5), house_of(world, "inn")]
[(6, ('lost',)), (9, ('page', 9, (('mill', '/a'),))), 5, None, ('inn', (), 0, (), ())]
>>> named((barn,), (("inn", "/"),))
(('inn', '/'), ('mill', '/a'))
'''

# These go on from those of the worlds.
WORLD_TEXTS = r'''
>>> from gentlerounds.worldtexts import print_world, read_world
>>> print_world(world)
'house mill 0\npage /a\n0 page 7 mill/b barn/x barn/no\npage /b\n0 moved barn/y\n5 gone\nhouse barn 1\n for *\n bar /no\n most 1 in 3\n open 1\nlost 4\npage /x\n0 page 8\npage /y\n2 page 9 mill/a\n'
>>> [read_world(print_world(world)) == world, read_world(""), read_world("house inn 3\n # closed\n")]
[True, (), (('inn', (), 3, (), ()),)]
>>> read_world("house mill 0\npage /a\n")
raises InvalidLine(2)
>>> read_world("house mill 0\n for x\n most 7 in 3\nlost 1\n")
raises InvalidLine(2)
>>> read_world("house mill 0\npage /a\n5 gone\n5 gone\n")
raises InvalidLine(3)
>>> read_world("house mill 0\nlost 3\n for *\n")
raises InvalidLine(2)
'''

CRAWLS = r'''
>>> from gentlerounds.crawls import crawl_of, crawled, next_stir, next_sweep, rested, rests, step_rows, stepped
>>> from gentlerounds.frontier import asks_left, away, barred, house_asks, met, stands, waiting
>>> from gentlerounds.logjudge import first_wrong_row, is_crawl, is_right
>>> from gentlerounds.logs import is_row, log_text, read_log, read_row, row_line
>>> from gentlerounds.tasks import is_task, may_be_asked, rules_at
>>> begun_crawl = crawl_of(world, "ann", (("mill", "/a"),), most=2, times=1)
>>> [begun_crawl[1:], is_task(world, begun_crawl[1]), may_be_asked(world, "ann", ("barn", "/no")), rules_at(world, "ann", "barn"), step_rows(begun_crawl)]
[(('ann', (('mill', '/a'),), 2, 1, ()), (), 0), True, False, (((1, 3),), (1,)), ((0, ('mill', '/a'), ('ask',)),)]
>>> done = rested(begun_crawl)
>>> log_text(done[2])
'0 ask mill/a\n1 page mill/a 7 mill/b barn/x barn/no\n1 ask mill/b\n1 ask barn/x\n2 moved mill/b barn/y\n3 page barn/x 8\n4 ask barn/y\n6 lost barn/y\n7 ask barn/y\n9 page barn/y 9 mill/a\n'
>>> [done[3], rests(done), next_stir(done), is_crawl(done), read_log(log_text(done[2])) == done[2], crawled(begun_crawl, 10) == done, stepped(done)[3]]
[10, True, None, True, True, True, 11]
>>> amid = crawled(begun_crawl, 3)
>>> [met(amid), barred(amid), waiting(amid), away(amid), next_stir(crawled(begun_crawl, 8))]
[(('mill', '/a'), ('mill', '/b'), ('barn', '/x'), ('barn', '/no'), ('barn', '/y')), (('barn', '/no'),), (('barn', '/y'),), ((1, ('barn', '/x')),), 9]
>>> [stands(amid, ("mill", "/b")), stands(amid, ("barn", "/x")), stands(amid, ("barn", "/z")), house_asks(done, "barn"), asks_left(begun_crawl), asks_left(amid), asks_left(done)]
['answered', 'away', 'unmet', (1, 4, 7), 8, 3, 0]
>>> task, rows = done[1], done[2]
>>> [first_wrong_row(world, task, rows), first_wrong_row(world, task, rows[:1] + ((2,) + rows[1][1:],)), first_wrong_row(world, task, rows[:3] + ((2, ("barn", "/no"), ("ask",)),)), first_wrong_row(world, task, rows[:6] + ((3, ("barn", "/y"), ("ask",)),))]
[None, (1, 'overdue'), (3, 'barred'), (6, 'impolite')]
>>> [first_wrong_row(world, task, rows[:1] + ((1, ("mill", "/a"), ("gone",)),)), first_wrong_row(world, task, rows[:4] + ((2,) + rows[5][1:],)), first_wrong_row(world, task, rows[1:]), first_wrong_row(world, task, rows[:4] + rows[5:]), first_wrong_row(world, task, [])]
[(1, 'untrue'), (4, 'early'), (0, 'unasked'), (4, 'overdue'), (None, 'form')]
>>> [row_line(rows[7]), read_row("9 page barn/y 9 mill/a") == rows[9], is_row((0, ("mill", "/a"), ("cut",))), is_right(world, task, rows[:7])]
['6 lost barn/y', True, True, True]
>>> next_sweep(done)[1:]
(('ann', (('mill', '/a'),), 2, 1, ((0, 'mill'), (1, 'mill'), (1, 'barn'), (4, 'barn'), (7, 'barn'))), (), 10)
'''

# These go on from those of the crawls, those of copies and of the console likewise.
JOURNALS = r'''
>>> from gentlerounds.journals import again, behind, cut, deeds_of, journal_of, print_journal, read_journal, seal_of
>>> [seal_of("0 0 ask mill/a"), cut(done, 1, 5), read_journal(cut(done, 1, 5)) == rows[:1], read_journal(journal_of(done)) == rows, print_journal(rows) == journal_of(done)]
[9048, '0 0 ask mill/a 9048\n1 1 p', True, True, True]
>>> anew = again(begun_crawl, cut(done, 1, 5), 2)
>>> [anew[2][1:], anew[3], waiting(anew), again(begun_crawl, journal_of(anew), 2) == anew, house_asks(rested(anew), "mill"), rested(anew)[3]]
[((2, ('mill', '/a'), ('cut',)),), 2, (('mill', '/a'),), True, (0, 2, 3), 9]
>>> [deeds_of(rows[:1]), behind(deeds_of(rows), 1), behind(deeds_of(rows), 2, 5)]
[(('write', '0 0 ask mill/a 9048\n'), ('ask', 0, ('mill', '/a'))), ('0 0 ask mill/a 9048\n', ()), ('0 0 ask mill/a 9048\n1 1 p', ((0, ('mill', '/a')),))]
>>> read_journal("0 0 ask mill/b 9048\n")
raises InvalidJournal(0)
>>> again(begun_crawl, journal_of(done), 8)
raises NotNow()
'''

COPIES = r'''
>>> from gentlerounds.copies import alike, copies_of, end_of, joined_copies, still_so
>>> copies_of(done)
((('barn', '/x'), 8, 1), (('barn', '/y'), 9, 7), (('mill', '/a'), 7, 0))
>>> [len(still_so(world, copies_of(done), 1)), end_of(done, ("mill", "/b")), end_of(done, ("barn", "/no")), alike(done)[1]]
[2, ('page', ('barn', '/y')), ('none', ('barn', '/no')), (('barn', '/y'), (('barn', '/y'), ('mill', '/b')))]
>>> joined_copies(copies_of(done), ((("barn", "/y"), 3, 7), (("inn", "/"), 1, 0), (("mill", "/a"), 2, 4)))
((('barn', '/x'), 8, 1), (('barn', '/y'), 9, 7), (('inn', '/'), 1, 0), (('mill', '/a'), 2, 4))
'''

SETUPS = r'''
>>> from gentlerounds.setups import acts_at, asks_by, begun, is_setup, led, period_of, step, sum_of, worth_of
>>> one, two, three = (1, 1), (2, 1), (3, 1)
>>> press = (((((1, 2),), (1,)),), ((0, (three, two, two)), (0, (two, two))), 1)
>>> [is_setup(press), period_of(press), begun(press), acts_at(press, begun(press))]
[True, 1, (0, ((0,),), (3, 2)), ((), (0,), (1,))]
>>> [step(press, begun(press), (0,)), acts_at(press, step(press, begun(press), (0,))), sum_of(press, begun(press), ((0,), (), (1,)))]
[(0, ((1,),), (0, 2)), ((),), (9, 1)]
>>> [led(press, begun(press), ((0,), (), (1,)))[3], worth_of(press, (0, ((1,),), (2, 0))), asks_by(press, ((0,), (), (1,)))]
[(0, ((1,),), (2, 0)), (4, 1), ((0, 2),)]
'''

# These go on from those of the set-ups.
STAGES = r'''
>>> from gentlerounds.stages import best_row, best_sum, staged, takes_staged
>>> [best_sum(press, begun(press), n) for n in (0, 1, 2, 3, 4, 5)]
[(0, 1), (3, 1), (5, 1), (9, 1), (11, 1), (14, 1)]
>>> [staged(press, begun(press), 1), takes_staged(press, begun(press), 1, staged(press, begun(press), 1)), sum_of(press, begun(press), best_row(press, begun(press), 5))]
[((((0, ((0,),), (3, 2)), (0, 1)), ((0, ((1,),), (0, 2)), (0, 1)), ((0, ((1,),), (3, 0)), (0, 1))), (((0, ((0,),), (3, 2)), (3, 1)),)), True, (14, 1)]
'''

ROUNDS = r'''
>>> from gentlerounds.rings import is_ring, mean_of, ring_of
>>> from gentlerounds.rounds import behind_by, round_plan, waiting_of
>>> from gentlerounds.tables import bound_of, rate_of, reached, takes_table, told_table
>>> turns = ((), ((0,), (), (1,), ()))
>>> [is_ring(press, turns), is_ring(press, (((0,), (), (1,), ()), ((0,), (), (1,), ()))), rate_of(press), len(reached(press))]
[False, True, (11, 4), 7]
>>> table = told_table(press)
>>> [table[0], bound_of(press, table), table[1][0], takes_table(press, table), takes_table(press, ((5, 2), table[1])), mean_of(press, ring_of(press))]
[(11, 4), (3, 4), ((0, ((0,),), (1, 2)), (5, 4)), True, False, (11, 4)]
>>> fair = (((0,), (), (1,), ()), ((0,), (), (1,), ()))
>>> [waiting_of(press, (0, ((1,),), (0, 2))), round_plan(press, fair, (0, ((1,),), (1, 2)), 4), behind_by(press, fair, begun(press))]
[3, ((), (), (0,), ()), 8]
'''

CONSOLE = r'''
>>> from gentlerounds.console import fresh_console, said, told_all
>>> lines = ("world house mill 0 ; page /a ; 0 page 7 mill/b ; page /b ; 0 gone", "crawl ann 1 0 mill/a", "go 1", "cut 0 5", "journal", "again 1", "rest", "log")
>>> console, answers = told_all(fresh_console(), lines)
>>> answers
('1 houses', 'moment 0, 0 asks, 1 wait, 0 away', 'moment 1, 1 asks, 0 wait, 1 away', 'cut', '0 0 a', 'moment 1, 0 asks, 1 wait, 0 away', 'moment 4, 2 asks, 0 wait, 0 away, at rest', '1 ask mill/a\n2 page mill/a 7 mill/b\n2 ask mill/b\n3 gone mill/b')
>>> told_all(console, ("copies", "judge", "go 401", "setup most 1 ; house most 1 in 2 open 1 ; page 0 3 2 2 ; page 0 2 2", "best 3", "sweep", "back", "back"))[1]
('mill/a 7 1', 'right', 'not understood', 'rate 11/4, bound 3/4, 7 standings', 'best 9', 'moment 4, 0 asks, 1 wait, 0 away', 'back', 'back')
'''


class TestExamples(unittest.TestCase):
    def test_patterns(self):
        run_examples(self, PATTERNS)

    def test_decisions(self):
        run_examples(self, DECISIONS)

    def test_limits(self):
        run_examples(self, LIMITS)

    def test_monitors(self):
        run_examples(self, MONITORS)

    def test_sharing(self):
        run_examples(self, SHARING)

    def test_files(self):
        run_examples(self, FILES)

    def test_alike_files(self):
        run_examples(self, FILES + ALIKE_FILES)

    def test_worlds(self):
        run_examples(self, WORLDS)

    def test_world_texts(self):
        run_examples(self, WORLDS + WORLD_TEXTS)

    def test_crawls(self):
        run_examples(self, WORLDS + CRAWLS)

    def test_journals(self):
        run_examples(self, WORLDS + CRAWLS + JOURNALS)

    def test_copies(self):
        run_examples(self, WORLDS + CRAWLS + COPIES)

    def test_setups(self):
        run_examples(self, SETUPS)

    def test_stages(self):
        run_examples(self, SETUPS + STAGES)

    def test_tables_rings_and_rounds(self):
        run_examples(self, SETUPS + ROUNDS)

    def test_console(self):
        run_examples(self, CONSOLE)

    def test_all_of_them_one_behind_the_other(self):
        run_examples(self, PATTERNS + DECISIONS + LIMITS + MONITORS + SHARING + FILES + ALIKE_FILES + WORLDS + WORLD_TEXTS
                     + CRAWLS + JOURNALS + COPIES + SETUPS + STAGES + ROUNDS + CONSOLE)


if __name__ == "__main__":
    unittest.main()
