"""Equal calls return equal answers, by position and by name, and no argument is changed."""

import importlib
import inspect
import random
import unittest

from gentlerounds.crawls import rested
from gentlerounds.filetexts import print_file
from gentlerounds.logs import log_text
from gentlerounds.worldtexts import print_world
from tests.samples import FILE, HOUSE, MILL, some_crawl, some_world
from tests.test_interface import FUNCTIONS, signatures
from tests.test_logjudge import LOG, TASK, WORLD

STAGES = ("filetexts", "alikefiles", "addresses", "worlds", "worldtexts", "tasks", "logs", "logjudge", "frontier",
          "crawls")


def arguments(source):
    """A right value for each name of a parameter; some names have one for each module."""
    world = source.choice((WORLD, (HOUSE,), some_world(source)))
    crawl = rested(some_crawl(source))
    texts = {"filetexts": print_file(FILE), "addresses": "mill/a", "worldtexts": print_world(world),
             "logs": log_text(LOG)}
    values = {"worlds": world, "tasks": TASK, "logs": LOG[0], "logjudge": crawl, "addresses": MILL}
    return {"file": FILE, "other": FILE[::-1], "crawler": "ann", "address": MILL, "world": world, "house": "mill",
            "moment": 40,
            "seeds": (MILL, MILL), "row": LOG[1], "log": LOG, "task": ("ann", (MILL,), 3, 1, ()), "crawl": crawl,
            "many": 9,
            "most": 2, "times": 1, "past": ((3, "far"), (4, "far")), "text": texts, "value": values}


def texts_of(names, module):
    """The signs of `read_row` are a line, those of `read_log` a text; all else is told by its name."""
    return {name: value[module] if isinstance(value, dict) else value for name, value in names.items()}


class TestAgain(unittest.TestCase):
    def test_each_function(self):
        source = random.Random(70)
        for _ in range(12):
            for module in STAGES:
                for signature in signatures(FUNCTIONS[module]):
                    self.check(module, signature.partition("(")[0], arguments(source))

    def check(self, module, word, names):
        call = getattr(importlib.import_module("gentlerounds." + module), word)
        told = inspect.signature(call).parameters.values()
        wanted = [one.name for one in told]
        named = texts_of({name: names[name] for name in wanted}, module)
        if word == "read_row":
            named = {"text": "7 page mill/a 3 mill/b"}
        alone = {one.name: named[one.name] for one in told if one.kind is one.KEYWORD_ONLY}
        placed = [named[name] for name in wanted if name not in alone]
        kept = repr(named)
        first = call(*placed, **alone)
        self.assertEqual(repr(call(*placed, **alone)), repr(first), word)
        self.assertEqual(repr(call(**named)), repr(first), word)
        self.assertEqual(repr(call(**eval(kept))), repr(first), word)
        self.assertEqual(repr(named), kept, word)


if __name__ == "__main__":
    unittest.main()
