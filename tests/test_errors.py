import unittest

from gentlerounds import errors
from tests.helper import Echo, Own, any_values, nested

GIVEN = """InvalidName InvalidPath InvalidPattern InvalidNumber InvalidFraction InvalidLimits InvalidHours InvalidRules
InvalidCounts InvalidAddress InvalidMoment InvalidAnswer InvalidRow InvalidCrawl InvalidEvent InvalidSetup
InvalidStanding InvalidAct InvalidTable InvalidRing""".split()
INDEX = """InvalidPatterns InvalidPaths InvalidFile InvalidAsks InvalidParts InvalidRows NotPolite InvalidLine
InvalidWorld InvalidTask InvalidLog InvalidJournal InvalidCopies InvalidSeeds InvalidPast InvalidDeeds
InvalidActs""".split()
BARE = ["Barred", "NoShare", "TooMany", "NotNow"]


class TestErrors(unittest.TestCase):
    def test_all_classes_are_there_and_no_others(self):
        told = {name for name, value in vars(errors).items() if isinstance(value, type)}
        self.assertEqual(told, {"CrawlError", *GIVEN, *INDEX, *BARE})

    def test_where_each_class_stands(self):
        base = errors.CrawlError
        self.assertEqual(base.__mro__, (base, ValueError, Exception, BaseException, object))
        for name in GIVEN + INDEX + BARE:
            kind = getattr(errors, name)
            self.assertEqual(kind.__bases__, (base,), name)
            self.assertEqual(kind.__module__, "gentlerounds.errors")

    def test_what_is_kept(self):
        for names, attribute in ((GIVEN, "given"), (INDEX, "index")):
            for name in names:
                kind = getattr(errors, name)
                for value in any_values() + [0, 7, "x", Own(), Echo(), nested(tuple, 30)]:
                    for error in (kind(value), kind(**{attribute: value})):
                        self.assertIs(getattr(error, attribute), value)
                        self.assertEqual(list(vars(error)), [attribute])
                self.assertRaises(TypeError, kind)
                self.assertRaises(TypeError, kind, 1, 2)

    def test_errors_without_attributes(self):
        for name in BARE + ["CrawlError"]:
            self.assertEqual(vars(getattr(errors, name)()), {})

    def test_each_is_caught_by_its_own_class_and_those_above(self):
        for name in GIVEN + INDEX + BARE:
            kind = getattr(errors, name)
            error = kind() if name in BARE else kind((1, 2))
            for wider in (kind, errors.CrawlError, ValueError):
                try:
                    raise error
                except wider as caught:
                    self.assertIs(caught, error)
            for other in GIVEN + INDEX + BARE:
                self.assertEqual(isinstance(error, getattr(errors, other)), other == name)


if __name__ == "__main__":
    unittest.main()
