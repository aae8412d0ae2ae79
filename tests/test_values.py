import unittest
from math import gcd

from gentlerounds import values
from tests.helper import any_values, no_tuples


class TestNumbers(unittest.TestCase):
    def test_whole_numbers(self):
        for number in (0, 1, -1, 7, -10 ** 400, 10 ** 400):
            self.assertIs(values.is_whole(number), True)
        for value in any_values() + ["0", (0,), [0], b"1"]:
            self.assertIs(values.is_whole(value), False)

    def test_between(self):
        for low, high in ((0, 0), (1, 6), (-3, -1), (5, 4), (-2, 2)):
            for number in range(-5, 9):
                self.assertIs(values.is_between(number, low, high), number in range(low, high + 1))
        for value in any_values() + ["1", (1,), [1]]:
            self.assertIs(values.is_between(value, -9, 9), False)
        self.assertIs(values.is_between(10 ** 399, 0, 10 ** 399), True)
        self.assertIs(values.is_between(True, 0, 1), False)

    def test_fractions(self):
        for top in range(-7, 8):
            for bottom in range(-4, 8):
                right = bottom > 0 and all(top % by or bottom % by for by in range(2, 9))
                self.assertIs(values.is_fraction((top, bottom)), right, (top, bottom))
        big = 10 ** 200
        self.assertIs(values.is_fraction((big + 1, big)), gcd(big + 1, big) == 1)
        self.assertIs(values.is_fraction((2 * big, 2)), False)

    def test_no_fractions(self):
        for value in any_values() + no_tuples() + [(), (1,), (1, 1, 1), [1, 2], (True, 1), (1, True), (False, 1),
                                                   (1, None),
                                                   ("1", 1), (1, "2"), ((1,), 2), (1, (2, 1)), (0, 0), "12"]:
            self.assertIs(values.is_fraction(value), False)
        self.assertIs(values.is_fraction((0, 1)), True)
        self.assertIs(values.is_fraction((0, 2)), False)


class TestPutAt(unittest.TestCase):
    def test_each_place(self):
        row = (5, "a", None, (1,))
        for place in range(4):
            new = values.put_at(row, place, "new")
            self.assertEqual(new, tuple("new" if index == place else row[index] for index in range(4)))
        self.assertEqual(row, (5, "a", None, (1,)))
        self.assertEqual(values.put_at((1,), 0, (2, 3)), ((2, 3),))
        self.assertEqual(values.put_at(row=(1, 2), place=1, value=()), (1, ()))


if __name__ == "__main__":
    unittest.main()
