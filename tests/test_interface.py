"""The names, arguments and defaults of the interface, and where each is defined."""

import importlib
import inspect
import unittest

FUNCTIONS = {
    "values": """is_whole(value) is_fraction(value) is_between(value, low, high) put_at(row, place, value)""",
    "names": """is_name(value) is_path(value) signs_of_paths() is_lesser(path, other)""",
    "patterns": """is_pattern(value) body_of(pattern) places(pattern, path) next_places(pattern, places, sign)
        meets(pattern, path) least_path(met, unmet) covers(pattern, other) are_apart(pattern, other)""",
    "decisions": """are_paths(value) deciding(paths, path) is_let_by(paths, path) idle_rows(paths)
        first_decided(paths, index) first_let(paths) first_barred(paths) parting_path(paths, other)
        are_alike_paths(paths, other) path_table(paths, other) takes_path_table(paths, other, value)""",
    "limits": """are_limits(value) are_hours(value) are_rules(value) is_open(hours, moment) is_polite(rules, asks)
        first_wrong(rules, asks) may_ask(rules, asks, moment) soonest(rules, asks, many, *, since=0)
        most(limits, moments) most_from(rules, moment, moments) most_table(limits) tidied(limits)
        tidied_hours(hours) joined(limits, other)""",
    "monitors": """are_counts(limits, value) counts_at(rules, asks, moment) most_now(rules, moment, counts)
        lets(rules, moment, counts, many) next_counts(rules, moment, counts, many) wait(rules, moment, counts)""",
    "sharing": """is_stricter(rules, other) loose_row(rules, other) are_alike_limits(limits, other)
        are_alike_rules(rules, other) keep(parts, shared) breaking(parts, shared) arrivals(parts, rows)
        dealt(shared, many, late) most_crawlers(limits, late, shared)""",
    "files": """is_file(value) group_of(file, crawler) paths_of(file, crawler) rules_of(file, crawler)
        is_let(file, crawler, path) reason(file, crawler, path)""",
    "filetexts": """read_file(text) print_file(file)""",
    "alikefiles": """names_that_matter(file, other) led_as(file, other, crawler) parted_names(file, other)
        are_alike_files(file, other) parting(file, other)""",
    "addresses": """is_address(value) address_text(address) read_address(text)""",
    "worlds": """is_answer(value) is_world(value) house_of(world, house) told_at(world, address, moment)
        outcome_of(world, address, moment) next_change(world, address, moment) named(world, seeds)""",
    "worldtexts": """print_world(world) read_world(text)""",
    "tasks": """is_task(world, value) rules_at(world, crawler, house) may_be_asked(world, crawler, address)""",
    "logs": """is_row(value) row_line(row) read_row(text) log_text(log) read_log(text)""",
    "logjudge": """first_wrong_row(world, task, value) is_right(world, task, value) is_crawl(value)""",
    "frontier": """met(crawl) barred(crawl) waiting(crawl) away(crawl) stands(crawl, address) house_asks(crawl, house)
        asks_left(crawl)""",
    "crawls": """crawl_of(world, crawler, seeds, *, most=1, times=0, past=(), moment=0) step_rows(crawl) stepped(crawl)
        crawled(crawl, many) rests(crawl) rested(crawl) next_stir(crawl) next_sweep(crawl)""",
    "journals": """seal_of(text) journal_of(crawl) print_journal(log) read_journal(text) cut(crawl, rows, torn)
        deeds_of(log) behind(deeds, many, torn=0) again(crawl, text, moment)""",
    "copies": """is_copies(value) copies_of(crawl) joined_copies(copies, others) still_so(world, copies, moment)
        end_of(crawl, address) alike(crawl)""",
    "setups": """is_setup(value) is_standing(setup, value) period_of(setup) begun(setup) worth_of(setup, standing)
        acts_at(setup, standing) step(setup, standing, act) led(setup, standing, acts) sum_of(setup, standing, acts)
        asks_by(setup, acts)""",
    "stages": """best_sum(setup, standing, n) best_row(setup, standing, n) staged(setup, standing, n)
        takes_staged(setup, standing, n, value)""",
    "tables": """reached(setup) rate_of(setup) told_table(setup) takes_table(setup, value) bound_of(setup, table)""",
    "rings": """is_ring(setup, value) mean_of(setup, ring) ring_of(setup)""",
    "rounds": """waiting_of(setup, standing) round_plan(setup, ring, standing, many)
        behind_by(setup, ring, standing)""",
    "checker": """accepts(claim, paper)""",
    "certificates": """certify_polite(rules, asks) certify_stricter(limits, other) certify_rate(setup, number)
        certify_sum(setup, standing, n, number) certify_log(world, task, value)""",
    "console": """fresh_console() said(console, line) told_all(console, lines)""",
}

METHODS = {
    ("monitors", "Monitor"): """__init__(self, rules, *, moment=0) lets(self, moment, many=1) ask(self, moment, many=1)
        soonest(self, many=1) undo(self)""",
}


def signatures(told):
    return " ".join(told.split()).replace(") ", ")\n").split("\n")


class TestInterface(unittest.TestCase):
    def test_functions(self):
        for name, told in FUNCTIONS.items():
            module = importlib.import_module("gentlerounds." + name)
            for signature in signatures(told):
                word = signature.partition("(")[0]
                function = getattr(module, word)
                self.assertEqual(word + str(inspect.signature(function)), signature)
                self.assertTrue(inspect.isfunction(function))
                self.assertEqual(function.__module__, module.__name__)

    def test_methods(self):
        for (name, word), told in METHODS.items():
            module = importlib.import_module("gentlerounds." + name)
            kind = getattr(module, word)
            self.assertEqual(kind.__module__, module.__name__)
            for signature in signatures(told):
                method = signature.partition("(")[0]
                self.assertEqual(method + str(inspect.signature(vars(kind)[method])), signature)


if __name__ == "__main__":
    unittest.main()
