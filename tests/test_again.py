"""Equal calls return equal answers, by position and by name, and no argument is changed."""

import importlib
import inspect
import random
import unittest

from gentlerounds.certificates import certify_rate, certify_sum
from gentlerounds.copies import copies_of
from gentlerounds.crawls import rested
from gentlerounds.filetexts import print_file
from gentlerounds.journals import deeds_of, journal_of
from gentlerounds.logs import log_text
from gentlerounds.rings import ring_of
from gentlerounds.setups import acts_at
from gentlerounds.stages import best_row, best_sum, staged
from gentlerounds.tables import reached, told_table
from gentlerounds.worldtexts import print_world
from tests.samples import FILE, HOUSE, MILL, some_crawl, some_world
from tests.setupsamples import PAIR, PRESS, some_acts, some_setup
from tests.test_interface import FUNCTIONS, signatures
from tests.test_logjudge import LOG, TASK, WORLD

STAGES = ("filetexts", "alikefiles", "addresses", "worlds", "worldtexts", "tasks", "logs", "logjudge", "frontier",
          "crawls", "journals", "copies", "setups", "stages", "tables", "rings", "rounds", "checker", "certificates",
          "console")


def arguments(source):
    """A right value for each name of a parameter; some names have one for each module."""
    world = source.choice((WORLD, (HOUSE,), some_world(source)))
    crawl = rested(some_crawl(source))
    texts = {"filetexts": print_file(FILE), "addresses": "mill/a", "worldtexts": print_world(world),
             "logs": log_text(LOG), "journals": journal_of(crawl) + "0 x"}
    values = {"worlds": world, "tasks": TASK, "logs": LOG[0], "logjudge": crawl, "addresses": MILL,
              "copies": copies_of(crawl), "certificates": LOG}
    moments = {"worlds": 40, "crawls": 40, "copies": 40, "journals": crawl[3]}
    return {"file": FILE, "crawler": "ann", "address": MILL, "world": world, "house": "mill", "moment": moments,
            "other": {"alikefiles": FILE[::-1], "certificates": ((1, 4),)}, "rules": (((1, 2),), (1, 0)),
            "asks": (0, 3),
            "limits": ((2, 5), (1, 3)),
            "seeds": (MILL, MILL), "row": LOG[1], "log": LOG, "task": ("ann", (MILL,), 3, 1, ()), "crawl": crawl,
            "many": {"crawls": 9, "journals": 2, "rounds": 9}, "rows": 0, "torn": 0, "deeds": deeds_of(LOG),
            "most": 2, "times": 1, "past": ((3, "far"), (4, "far")), "text": texts, "value": values,
            "copies": copies_of(crawl), "others": ((("a", "/"), 1, 1), (MILL, 3, 99)), **of_setups(source, values)}


def of_setups(source, values):
    """Right values for the names of what speaks of set-ups and of the console."""
    setup = source.choice((PRESS, PAIR, some_setup(source, 30)))
    here = source.choice(reached(setup))
    acts = some_acts(source, setup, reached(setup)[0], 0)
    claim, paper = source.choice((certify_rate(setup, (1, 1)), certify_sum(setup, here, 3, (4, 1))))
    values.update({"setups": here, "stages": staged(setup, here, 3), "tables": told_table(setup),
                   "rings": ring_of(setup)})
    lines = ("world house mill 0", "crawl ann 1 0 mill/a", "go 1", "cut 1 0", "back", "judge", "x")
    return {"setup": setup, "standing": here, "act": acts_at(setup, here)[-1], "acts": acts + ((), ()), "n": 3,
            "table": told_table(setup), "ring": ring_of(setup), "claim": claim, "paper": paper, "number": (5, 3),
            "console": (((), None, None, PRESS), (((), None, None, None),)), "line": source.choice(lines),
            "lines": lines}


def texts_of(names, module):
    """The signs of `read_row` are a line, those of `read_log` a text; all else is told by its name."""
    return {name: value[module] if isinstance(value, dict) else value for name, value in names.items()}


class TestAgain(unittest.TestCase):
    def test_each_function(self):
        source = random.Random(70)
        for _ in range(12):
            for module in STAGES:
                for signature in signatures(FUNCTIONS[module]):
                    self.check(module, signature.partition("(")[0], arguments(source))

    def check(self, module, word, names):
        call = getattr(importlib.import_module("gentlerounds." + module), word)
        told = inspect.signature(call).parameters.values()
        wanted = [one.name for one in told]
        named = texts_of({name: names[name] for name in wanted}, module)
        if word == "read_row":
            named = {"text": "7 page mill/a 3 mill/b"}
        alone = {one.name: named[one.name] for one in told if one.kind is one.KEYWORD_ONLY}
        placed = [named[name] for name in wanted if name not in alone]
        kept = repr(named)
        first = call(*placed, **alone)
        self.assertEqual(repr(call(*placed, **alone)), repr(first), word)
        self.assertEqual(repr(call(**named)), repr(first), word)
        self.assertEqual(repr(call(**eval(kept))), repr(first), word)
        self.assertEqual(repr(named), kept, word)

    def test_behind_calls_with_other_setups(self):
        source = random.Random(71)
        setups = [PRESS, PAIR] + [some_setup(source, 40) for _ in range(25)]
        first = [repr(self.told_of(setup)) for setup in setups]
        self.assertEqual([repr(self.told_of(setup)) for setup in setups[::-1]], first[::-1])

    def told_of(self, setup):
        here = reached(setup)[-1]
        return (reached(setup), told_table(setup), ring_of(setup), best_sum(setup, here, 5), best_row(setup, here, 5),
                staged(setup, here, 2), certify_rate(setup, (2, 1)))


if __name__ == "__main__":
    unittest.main()
