"""Points 33 and 34: the greatest gain, and tables that show a bound."""

import random
import unittest

from drawingoffice.catalogs import Catalog
from drawingoffice.errors import BadBound, TooManyRows
from drawingoffice.gains import excess, table_holds
from drawingoffice.holding import advance, finish, start
from drawingoffice.lists import Steps
from small_cards import raised
from stacks import many_lists, texts

SQUEEZE = Steps.of(("squeeze", "a"))
ERASE = Steps.of(("map", (("a", ""),)))


def gain(first, second, catalog, text):
    return catalog.length(first(text)) - catalog.length(second(text))


def pairs_in_order(first, second, letters, longest):
    """The pairs of held tuples that short stacks lead to, in ascending order of the least such stacks."""
    found = []
    for text in texts(letters, longest):
        pair = advance(first, start(first), text)[0], advance(second, start(second), text)[0]
        if pair not in found:
            found.append(pair)
    return found


class ExcessFields(unittest.TestCase):
    def test_the_printed_example(self):
        one = excess(SQUEEZE, ERASE, Catalog({"a": 3}), letters="a", most=50)
        two = excess(SQUEEZE, ERASE, Catalog({"a": 3}), letters="ab", most=50)
        self.assertEqual([one.greatest, one.text, one.loop, two.greatest], [3, "a", None, None])
        self.assertEqual(one.table, [(("",), ("",), 3), (("a",), ("",), 3)])
        self.assertEqual((two.text, two.table), (None, []))

    def test_no_letters(self):
        found = excess(SQUEEZE, ERASE, Catalog({"a": 3}), letters="", most=1)
        self.assertEqual((found.greatest, found.text, found.loop), (0, "", None))
        self.assertEqual(found.table, [(("",), ("",), 0)])

    def test_no_steps(self):
        found = excess(Steps([]), Steps([]), Catalog({"a": -3, "b": 4}), letters="ba", most=1)
        self.assertEqual((found.greatest, found.text, found.loop, found.table), (0, "", None, [((), (), 0)]))

    def test_letters_may_repeat_and_come_in_any_order(self):
        swap = Steps.of(("replace", "ab", "b"), ("replace", "ba", "a"))
        catalog = Catalog({"a": 2, "b": -5})
        one = excess(Steps([]), swap, catalog, letters="ab", most=50)
        two = excess(Steps([]), swap, catalog, letters="bababb", most=50)
        self.assertEqual((one.greatest, one.text, one.loop, one.table), (two.greatest, two.text, two.loop, two.table))

    def test_lengths_of_zero_and_below(self):
        none = excess(SQUEEZE, ERASE, Catalog({"a": 0}), letters="ab", most=50)
        self.assertEqual((none.greatest, none.text, none.loop), (0, "", None))
        below = excess(SQUEEZE, ERASE, Catalog({"a": -1}), letters="ab", most=50)
        self.assertEqual((below.greatest, below.text), (0, ""))
        self.assertEqual(below.table, [(("",), ("",), 0), (("a",), ("",), -1)])
        away = excess(ERASE, SQUEEZE, Catalog({"a": -1}), letters="a", most=50)
        self.assertEqual((away.greatest, away.text), (1, "a"))
        empty = excess(SQUEEZE, ERASE, Catalog({}), letters="ab", most=50)
        self.assertEqual((empty.greatest, empty.text), (0, ""))

    def test_great_lengths(self):
        great = 10 ** 60 - 1
        found = excess(SQUEEZE, ERASE, Catalog({"a": great}), letters="a", most=50)
        self.assertEqual((found.greatest, found.text), (great, "a"))

    def test_the_least_text(self):
        # Two characters gain 2 each at once; three of one kind gain no more.
        first = Steps.of(("replace", "bb", "xy"), ("replace", "ab", "xy"))
        second = Steps.of(("map", (("a", ""), ("b", ""), ("x", ""), ("y", ""))))
        found = excess(first, second, Catalog({"x": 1}), letters="ab", most=50)
        self.assertIsNone(found.greatest)
        once = Steps.of(("squeeze", "a"), ("squeeze", "b"), ("map", (("a", ""),)))
        found = excess(once, Steps.of(("map", (("b", ""),)), ("map", (("a", ""),))), Catalog({"b": 2}), letters="b",
                       most=50)
        self.assertEqual((found.greatest, found.text), (2, "b"))

    def test_errors_in_order(self):
        for most in (0, -4):
            self.assertEqual(raised(excess, SQUEEZE, ERASE, Catalog({"a": 3}), letters="ab", most=most),
                             (BadBound, {"bound": most}))
        for letters in ("a", "ab"):
            self.assertEqual(raised(excess, SQUEEZE, ERASE, Catalog({"a": 3}), letters=letters, most=1),
                             (TooManyRows, {"bound": 1}))
        self.assertEqual(excess(SQUEEZE, ERASE, Catalog({"a": 3}), letters="a", most=2).greatest, 3)
        self.assertIsNone(excess(SQUEEZE, ERASE, Catalog({"a": 3}), letters="ab", most=2).greatest)

    def test_many_pairs_without_a_greatest_gain(self):
        many = Steps.of(("replace", "a" * 20, "b"))
        catalog = Catalog({"a": -1, "b": 5})
        self.assertEqual(raised(excess, many, Steps([]), catalog, letters="a", most=19), (TooManyRows, {"bound": 19}))
        found = excess(many, Steps([]), catalog, letters="a", most=20)
        self.assertEqual((found.greatest, found.text, found.table), (None, None, []))
        self.check_loop(many, Steps([]), catalog, found.loop)

    def check_loop(self, first, second, catalog, loop):
        self.assertIsInstance(loop, tuple)
        before, turn = loop
        gains = [gain(first, second, catalog, before + turn * count) for count in range(6)]
        steps = [later - earlier for earlier, later in zip(gains, gains[1:])]
        self.assertEqual(steps, steps[:1] * 5)
        self.assertGreaterEqual(steps[0], 1)

    def test_the_table_can_be_changed(self):
        found = excess(SQUEEZE, ERASE, Catalog({"a": 3}), letters="a", most=50)
        found.table.clear()
        found.table.append(7)
        self.assertEqual(found.table, [(("",), ("",), 3), (("a",), ("",), 3)])
        none = excess(SQUEEZE, ERASE, Catalog({"a": 3}), letters="ab", most=50)
        none.table.append(7)
        self.assertEqual(none.table, [])

    def test_held_against_all_short_stacks(self):
        chance = random.Random(12)
        lists = many_lists(70, seed=13)
        outcomes = set()
        for first in lists:
            for second in chance.sample(lists, 5):
                catalog = Catalog({"a": chance.randint(-2, 3), "b": chance.randint(-2, 2)})
                letters = chance.choice(["a", "ab", "ab", "ba", "bb"])
                found = excess(first, second, catalog, letters=letters, most=300)
                outcomes.add((found.greatest is None, found.greatest))
                if found.greatest is None:
                    self.assertEqual((found.text, found.table), (None, []))
                    self.assertLessEqual(set("".join(found.loop)), set(letters))
                    self.check_loop(first, second, catalog, found.loop)
                else:
                    self.check_greatest(first, second, catalog, letters, found)
        self.assertGreater(len(outcomes), 5)

    def check_greatest(self, first, second, catalog, letters, found):
        gains = [(gain(first, second, catalog, text), text) for text in texts(letters, 6)]
        self.assertIsNone(found.loop)
        self.assertEqual(gain(first, second, catalog, found.text), found.greatest)
        self.assertLessEqual(max(worth for worth, text in gains), found.greatest)
        if len(found.text) <= 6:
            self.assertEqual(found.text, next(text for worth, text in gains if worth == found.greatest))
        else:
            self.assertLess(max(worth for worth, text in gains), found.greatest)
        self.check_table(first, second, catalog, letters, found)

    def check_table(self, first, second, catalog, letters, found):
        table = found.table
        self.assertIs(table_holds(first, second, catalog, table, letters=letters), True)
        pairs = pairs_in_order(first, second, letters, 6)
        self.assertEqual([triple[:2] for triple in table][:len(pairs)], pairs)
        self.assertEqual(table[0][2], found.greatest)
        for at, (held_first, held_second, potential) in enumerate(table):
            lower = table[:at] + [(held_first, held_second, potential - 1)] + table[at + 1:]
            self.assertIs(table_holds(first, second, catalog, lower, letters=letters), False)
        self.assertEqual(table, self.table_by_rounds(first, second, catalog, letters, [row[:2] for row in table]))

    def table_by_rounds(self, first, second, catalog, letters, pairs):
        """The potentials of the pairs for all texts v of at most as many characters as there are pairs."""
        ends, moves = {}, {}
        for one, two in pairs:
            ends[one, two] = catalog.length(finish(first, one)) - catalog.length(finish(second, two))
            moves[one, two] = []
            for char in letters:
                after_one, out_one = advance(first, one, char)
                after_two, out_two = advance(second, two, char)
                moves[one, two].append(((after_one, after_two), catalog.length(out_one) - catalog.length(out_two)))
        worths = dict(ends)
        for _ in pairs:
            worths = {pair: max([ends[pair]] + [worths[after] + more for after, more in moves[pair]]) for pair in pairs}
        return [pair + (worths[pair],) for pair in pairs]


class TableHolds(unittest.TestCase):
    def setUp(self):
        self.catalog = Catalog({"a": 3})
        self.table = [(("",), ("",), 3), (("a",), ("",), 3)]

    def holds(self, table, letters="a"):
        return table_holds(SQUEEZE, ERASE, self.catalog, table, letters=letters)

    def test_a_right_table(self):
        self.assertIs(self.holds(self.table), True)
        self.assertIs(self.holds(tuple(self.table)), True)
        self.assertIs(self.holds(self.table, letters="aaa"), True)
        self.assertEqual(self.table, [(("",), ("",), 3), (("a",), ("",), 3)])

    def test_no_table_and_a_wrong_first_triple(self):
        self.assertIs(self.holds([]), False)
        self.assertIs(self.holds([], letters=""), False)
        self.assertIs(self.holds(self.table[::-1]), False)
        self.assertIs(self.holds([(("",), ("",), 0)], letters=""), True)
        self.assertIs(self.holds([(("a",), ("",), 3)], letters=""), False)

    def test_a_potential_below_the_end(self):
        self.assertIs(self.holds([(("",), ("",), 3), (("a",), ("",), 2)]), False)
        self.assertIs(self.holds([(("",), ("",), -1)], letters=""), False)

    def test_a_potential_below_a_character(self):
        self.assertIs(self.holds([(("",), ("",), 2), (("a",), ("",), 3)]), False)
        self.assertIs(self.holds([(("",), ("",), 99), (("a",), ("",), 3)]), True)
        self.assertIs(self.holds([(("",), ("",), 99), (("a",), ("",), 100)]), False)

    def test_a_missing_triple(self):
        self.assertIs(self.holds(self.table[:1]), False)

    def test_every_character_counts(self):
        self.assertIs(self.holds(self.table, letters="b"), False)
        self.assertIs(self.holds(self.table[:1], letters="b"), True)
        self.assertIs(self.holds(self.table, letters="ab"), False)

    def test_triples_may_repeat(self):
        low = (("a",), ("",), 2)
        self.assertIs(self.holds(self.table + self.table), True)
        self.assertIs(self.holds(self.table + [(("a",), ("",), 100)]), True)
        self.assertIs(self.holds(self.table + [(("",), ("",), 7)]), True)
        self.assertIs(self.holds(self.table + [low]), False)
        self.assertIs(self.holds([(("",), ("",), 50)] + self.table), True)
        self.assertIs(self.holds([(("",), ("",), 3), (("a",), ("",), 9), (("a",), ("",), 3)]), True)

    def test_pairs_that_no_stack_leads_to(self):
        first, second = Steps.of(("squeeze", "a")), Steps.of(("squeeze", "b"))
        table = [(("",), ("",), 0), (("a",), ("b",), 0)]
        self.assertIs(table_holds(first, second, Catalog({}), table, letters=""), True)
        self.assertIs(table_holds(first, second, Catalog({"a": 1}), table, letters=""), False)
        self.assertIs(table_holds(first, second, Catalog({"a": 1, "b": 1}), table, letters=""), True)


if __name__ == "__main__":
    unittest.main()
