"""Point 32: catalogs."""

import unittest

from drawingoffice.catalogs import Catalog

GREAT = 10 ** 60 - 1


class Catalogs(unittest.TestCase):
    def setUp(self):
        self.one = Catalog({"b": 2, "a": -3, "~": 0})
        self.two = Catalog({"a": 3, "!": GREAT})

    def lengths(self, catalog):
        return [(char, catalog[char]) for char in catalog]

    def test_lengths(self):
        self.assertEqual([self.one[char] for char in "ab~c!"], [-3, 2, 0, 0, 0])
        self.assertEqual(self.two["!"], GREAT)

    def test_letters(self):
        self.assertEqual((self.one.letters, self.two.letters, Catalog({}).letters), ("ab~", "!a", ""))
        self.assertEqual(list(self.one), ["a", "b", "~"])
        self.assertEqual(list(Catalog({})), [])
        self.assertEqual([char in self.one for char in "ab~c!"], [True, True, True, False, False])
        self.assertIs("a" in self.one, True)
        self.assertIs("c" in self.one, False)

    def test_length(self):
        self.assertEqual([self.one.length(text) for text in ("", "a", "abba", "xyz", "bxb~")], [0, -3, -2, 0, 4])
        self.assertEqual(self.two.length("!!"), 2 * GREAT)
        self.assertEqual(Catalog({}).length("abc"), 0)

    def test_sums_and_differences(self):
        self.assertEqual(self.lengths(self.one + self.two), [("!", GREAT), ("a", 0), ("b", 2), ("~", 0)])
        self.assertEqual(self.lengths(self.one - self.two), [("!", -GREAT), ("a", -6), ("b", 2), ("~", 0)])
        self.assertEqual(self.one + Catalog({}), self.one)
        self.assertEqual(self.lengths(Catalog({}) - self.one), [("a", 3), ("b", -2), ("~", 0)])
        self.assertEqual(self.lengths(self.one - self.one), [("a", 0), ("b", 0), ("~", 0)])

    def test_products(self):
        self.assertEqual(self.lengths(self.one * -2), [("a", 6), ("b", -4), ("~", 0)])
        self.assertEqual(3 * self.one, self.one * 3)
        self.assertEqual(self.lengths(self.one * 0), [("a", 0), ("b", 0), ("~", 0)])
        self.assertEqual(self.lengths(0 * Catalog({})), [])
        self.assertEqual((self.two * GREAT)["!"], GREAT * GREAT)

    def test_operands_stay(self):
        self.one + self.two, self.one - self.two, self.one * 3
        self.assertEqual(self.lengths(self.one), [("a", -3), ("b", 2), ("~", 0)])

    def test_equal(self):
        self.assertTrue(self.one == Catalog({"~": 0, "a": -3, "b": 2}))
        self.assertFalse(self.one == Catalog({"a": -3, "b": 2}))
        self.assertFalse(self.one == Catalog({"~": 1, "a": -3, "b": 2}))
        self.assertTrue(self.one != self.two)
        self.assertTrue(Catalog({}) == Catalog({}))
        for other in [{"b": 2, "a": -3, "~": 0}, None, "ab~", 0]:
            self.assertFalse(self.one == other)

    def test_copies(self):
        lengths = {"b": 2, "a": -3}
        catalog = Catalog(lengths)
        lengths["c"] = 9
        lengths["a"] = 0
        del lengths["b"]
        self.assertEqual(self.lengths(catalog), [("a", -3), ("b", 2)])
        self.assertEqual(list(lengths), ["a", "c"])


if __name__ == "__main__":
    unittest.main()
