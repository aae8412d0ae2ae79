import unittest

from gentlerounds import addresses
from gentlerounds.errors import InvalidAddress
from gentlerounds.names import signs_of_paths
from tests.helper import any_values, given, refusals
from tests.samples import LONGEST, no_addresses

GOOD = [("mill", "/a"), ("a", "/"), LONGEST, ("z" * 12, "/"), ("a", "/" * 40), ("mill", "/a/b//"), ("x", "/-._09az"),
        ("mill", "/" + signs_of_paths()[:39])]
TEXTS = ["", "/", "mill", "mill/A", "/a", "Mill/a", "mi ll/a", "mill /a", "mill/a ", " mill/a", "mill/a\n", "mill/*",
         "mill/a$", "m1ll/a", "mill.a", "a" * 13 + "/a", "a/" + "a" * 40, "\u00e9/a", "a/\u00e9", "*/a", b"mill/a", 1,
         ("mill", "/a"), ("mill/a",), ["mill/a"], "mill\\a", "a-b/a", "mill/a#", "mill//A", "/mill/a"]


class TestAddresses(unittest.TestCase):
    def test_right_ones(self):
        for address in GOOD:
            self.assertIs(addresses.is_address(address), True)
            text = addresses.address_text(address)
            self.assertEqual(text, address[0] + address[1])
            self.assertEqual(addresses.read_address(text), address)
            self.assertIsInstance(addresses.read_address(text), tuple)

    def test_unlike_addresses_have_unlike_texts(self):
        names, paths = ("a", "ab", "b", "abc"), ("/", "/a", "/ab", "//", "/b", "/a/b", "/ab/")
        texts = {addresses.address_text((name, path)) for name in names for path in paths}
        self.assertEqual(len(texts), len(names) * len(paths))

    def test_wrong_ones(self):
        for value in no_addresses():
            self.assertIs(addresses.is_address(value), False, repr(value))

    def test_bounds(self):
        for many in range(1, 15):
            for size in range(1, 43):
                right = many <= 12 and size <= 40
                house, path = "a" * many, "/" + "b" * (size - 1)
                self.assertIs(addresses.is_address((house, path)), right)
                if right:
                    self.assertEqual(addresses.read_address(house + path), (house, path))
                else:
                    self.assertRaises(InvalidAddress, addresses.read_address, house + path)

    def test_errors(self):
        refusals(self, addresses.address_text, [("address", GOOD[0])],
                 {"address": given(InvalidAddress, no_addresses())})
        refusals(self, addresses.read_address, [("text", "mill/a")],
                 {"text": given(InvalidAddress, any_values() + TEXTS)})


if __name__ == "__main__":
    unittest.main()
