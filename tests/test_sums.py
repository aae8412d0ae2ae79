import random
import unittest
from fractions import Fraction

from gentlerounds import sums
from gentlerounds.values import is_fraction
from tests.plainsetups import number, pair


class TestSums(unittest.TestCase):
    def test_against_fractions(self):
        source = random.Random(170)
        for _ in range(500):
            most = source.choice((3, 30, 10 ** 50))
            one, other = [Fraction(source.randint(-most, most), source.randint(1, most)) for _ in range(2)]
            self.assertEqual(sums.plus(pair(one), pair(other)), pair(one + other))
            self.assertEqual(sums.minus(pair(one), pair(other)), pair(one - other))
            self.assertIs(sums.is_up_to(pair(one), pair(other)), one <= other)
            self.assertIs(sums.is_up_to(pair(one), pair(one)), True)
            top, bottom = source.randint(-most, most), source.randint(1, most)
            self.assertEqual(number(sums.lowest(top, bottom)), Fraction(top, bottom))
            self.assertIs(is_fraction(sums.lowest(top, bottom)), True)
        self.assertEqual(sums.lowest(0, 9), (0, 1))


if __name__ == "__main__":
    unittest.main()
