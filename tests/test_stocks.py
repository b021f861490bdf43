"""Point 56: stocks."""

import unittest

from drawingoffice.catalogs import Catalog
from drawingoffice.errors import BadBound, NeverRests, TooManyRows, TooManySteps, TooMuchGrowth
from drawingoffice.lists import Steps
from drawingoffice.resting import rest
from drawingoffice.stocks import Stock
from small_cards import raised
from stacks import many_lists, texts

CATALOG = Catalog({"a": 2, "b": -1, "c": 10 ** 60 - 1})
CHAIN = Steps.of(("map", (("b", "c"),)), ("map", (("a", "b"),)))


class Stocks(unittest.TestCase):
    def test_properties(self):
        stock = Stock(CATALOG, CHAIN)
        self.assertTrue(stock.catalog == CATALOG and stock.steps == CHAIN)
        self.assertTrue(stock.resting == rest(CHAIN, most=1000))
        self.assertEqual((len(stock.steps), len(stock.resting)), (2, 4))

    def test_lengths(self):
        stock = Stock(CATALOG, CHAIN)
        self.assertEqual(stock.length("abc"), 3 * (10 ** 60 - 1))
        self.assertEqual(stock.length("xyz"), 0)
        self.assertEqual(stock.length(""), 0)

    def test_an_empty_list_of_replacements(self):
        stock = Stock(CATALOG, Steps([]), most_runs=1, most=1)
        self.assertEqual(len(stock.resting), 0)
        self.assertEqual([stock.length(stack) for stack in ("", "a", "aab")], [0, 2, 3])

    def test_an_empty_stack(self):
        for steps in [Steps([]), CHAIN, Steps.of(("squeeze", "a")), Steps.of(("replace", "b", ""))]:
            self.assertEqual(Stock(CATALOG, steps, most_runs=3).length(""), 0)

    def test_held_against_the_catalog_and_the_resting_list(self):
        found = 0
        for steps in many_lists(60, seed=56):
            try:
                stock = Stock(CATALOG, steps, most=60)
            except (NeverRests, TooManyRows, TooManySteps, TooMuchGrowth):
                self.assertIsNotNone(raised(rest, steps, most=60))
                continue
            found += 1
            resting = rest(steps, most=60)
            self.assertTrue(stock.resting == resting)
            for stack in texts("abc", 3):
                self.assertEqual(stock.length(stack), CATALOG.length(resting(stack)))
        self.assertGreater(found, 20)

    def test_errors_are_those_of_rest(self):
        grow, swap = Steps.of(("map", (("a", "aa"),))), Steps.of(("map", (("a", "b"), ("b", "a"))))
        for steps, bounds, error in [
            (CHAIN, dict(most_runs=0, most=0), (BadBound, {"bound": 0})),
            (CHAIN, dict(most_runs=-3, most=0), (BadBound, {"bound": -3})),
            (CHAIN, dict(most=-1), (BadBound, {"bound": -1})),
            (CHAIN * 7, {}, (TooManySteps, {"step_count": 56})),
            (grow, dict(most_runs=10), (TooMuchGrowth, {"growth_factor": 1024})),
            (CHAIN, dict(most_runs=2), (NeverRests, {"text": "a"})),
            (swap, {}, (NeverRests, {"text": "a"})),
            (Steps.of(("replace", "aab", "")), dict(most_runs=2, most=1), (TooManyRows, {"bound": 1})),
        ]:
            self.assertEqual(raised(Stock, CATALOG, steps, **bounds), error)
            if "most" in bounds:
                self.assertEqual(raised(rest, steps, **bounds), error)

    def test_bounds_are_passed_by_keyword(self):
        self.assertRaises(TypeError, Stock, CATALOG, CHAIN, 4)


if __name__ == "__main__":
    unittest.main()
