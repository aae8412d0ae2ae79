"""The examples of the document, as they stand there."""

import unittest

from tests.helper import run_examples

PATTERNS = r'''
>>> from gentlerounds.patterns import are_apart, body_of, covers, is_pattern, least_path, meets, next_places, places
>>> [is_pattern("/a*$"), is_pattern("a"), is_pattern("/$a"), is_pattern("$"), body_of("/a$"), body_of("/a")]
[True, False, False, False, '/a', '/a*']
>>> [meets("/a", "/abc"), meets("/a$", "/abc"), meets("/*.txt$", "/x/y.txt"), meets("/", "/")]
[True, False, True, True]
>>> [places("/*b", "/"), places("/*b", "/a"), places("/*b", "/ab"), next_places("/*b", (2, 3, 4), "c")]
[(1, 2), (2,), (2, 3, 4), (2, 4)]
>>> [least_path((), ()), least_path(("/*b",), ()), least_path(("/*b", "/a"), ()), least_path(("/*b",), ("/*b$",)), least_path(("/a",), ("/*",))]
['/', '/b', '/ab', '/b-', None]
>>> [covers("/*", "/a$"), covers("/a", "/a*b"), covers("/a*b", "/a"), are_apart("/a$", "/ab"), are_apart("/a", "/*b")]
[True, True, False, True, False]
'''


class TestExamples(unittest.TestCase):
    def test_patterns(self):
        run_examples(self, PATTERNS)


if __name__ == "__main__":
    unittest.main()
