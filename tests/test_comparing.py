"""Point 29: comparing two lists of replacements."""

import unittest

from drawingoffice.comparing import compare
from drawingoffice.errors import BadBound, TooManyRows
from drawingoffice.holding import advance, start
from drawingoffice.lists import Steps
from small_cards import raised
from stacks import many_lists, search, texts


def row_of(first, second, text):
    """The row of a text as the point describes it, read from the beginning; None if there is none."""
    held_first, one = advance(first, start(first), text)
    held_second, two = advance(second, start(second), text)
    if one.startswith(two):
        return held_first, held_second, one[len(two):], ""
    return (held_first, held_second, "", two[len(one):]) if two.startswith(one) else None


def compare_by_the_words(first, second, most):
    letters = sorted(set(first.alphabet + second.alphabet))

    def stops(text):
        return row_of(first, second, text) is None or first(text) != second(text)

    return search(letters, lambda text: row_of(first, second, text), stops, most)


class Compare(unittest.TestCase):
    def check(self, first, second, text, most=100):
        verdict = compare(first, second, most=most)
        results = None if text is None else (first(text), second(text))
        self.assertEqual((verdict.same, verdict.text, verdict.results), (text is None, text, results))
        self.assertIs(verdict.same, text is None)

    def test_same(self):
        squeeze = Steps.of(("squeeze", "a"))
        self.check(Steps([]), Steps([]), None, most=1)
        self.check(Steps([]), Steps.of(("map", ())), None, most=1)
        self.check(squeeze, squeeze * 2, None)
        self.check(squeeze, Steps.of(("replace", "aa", "a")) + squeeze, None)
        self.check(Steps.of(("replace", "a", "b")), Steps.of(("map", (("a", "b"),))), None)
        self.check(Steps.of(("replace", "ab", "ab")), Steps([]), None)

    def test_different(self):
        squeeze = Steps.of(("squeeze", "a"))
        self.check(squeeze, Steps.of(("replace", "aa", "a")), "aaa")
        self.check(squeeze, Steps([]), "aa")
        self.check(Steps.of(("replace", "aab", "c")), Steps([]), "aab")
        self.check(Steps.of(("squeeze", "b")), squeeze, "aa")
        self.check(Steps.of(("replace", "ba", "")), Steps.of(("replace", "ab", "")), "ab")
        self.check(Steps.of(("map", (("~", "x"),))), Steps.of(("map", (("!", "x"),))), "!")

    def test_bad_bounds(self):
        for most in (0, -1):
            self.assertEqual(raised(compare, Steps([]), Steps([]), most=most), (BadBound, {"bound": most}))
        self.assertTrue(compare(Steps([]), Steps([]), most=1).same)

    def test_the_bound_at_which_there_is_still_room_and_one_less(self):
        squeeze = Steps.of(("squeeze", "a"))
        # Rows: that of the empty text and of all texts that end with `a`; both lists hold them the same way.
        self.assertTrue(compare(squeeze, squeeze, most=2).same)
        self.assertEqual(raised(compare, squeeze, squeeze, most=1), (TooManyRows, {"bound": 1}))

    def test_a_text_at_which_the_search_stops_needs_no_room(self):
        one, two = Steps.of(("map", (("a", "b"),))), Steps.of(("map", (("a", "c"),)))
        self.check(one, two, "a", most=1)
        pair = Steps.of(("replace", "ab", "c"))
        self.check(pair, Steps([]), "ab", most=2)
        self.assertEqual(raised(compare, pair, Steps([]), most=1), (TooManyRows, {"bound": 1}))

    def test_one_list_is_ahead_for_a_while(self):
        self.check(Steps.of(("replace", "aab", "aab")), Steps([]), None, most=3)
        double = Steps.of(("map", (("a", "aa"),)))
        erased = double + Steps.of(("replace", "a" * 20, ""))
        self.check(double, erased, "a" * 10, most=10)
        self.assertEqual(raised(compare, double, erased, most=9), (TooManyRows, {"bound": 9}))

    def test_held_against_all_short_stacks(self):
        lists = many_lists(60, seed=6)
        outcomes = set()
        for first in lists:
            for second in lists[::6]:
                least = next((text for text in texts("ab", 5) if first(text) != second(text)), None)
                try:
                    verdict = compare(first, second, most=60)
                except TooManyRows:
                    outcomes.add("full")
                    continue
                if verdict.same:
                    self.assertIsNone(least)
                elif least is not None or len(verdict.text) <= 5:
                    self.assertEqual(verdict.text, least)
                if not verdict.same:
                    self.assertEqual(verdict.results, (first(verdict.text), second(verdict.text)))
                    self.assertNotEqual(*verdict.results)
                outcomes.add(verdict.same)
        self.assertLessEqual({True, False}, outcomes)

    def test_held_against_the_words_of_the_point(self):
        lists = many_lists(45, seed=7)
        outcomes = set()
        for first in lists:
            for second in lists[::5]:
                for most in (1, 2, 3, 4, 5, 8, 20):
                    expected = compare_by_the_words(first, second, most)
                    if expected == "full":
                        self.assertEqual(raised(compare, first, second, most=most), (TooManyRows, {"bound": most}))
                    else:
                        self.assertEqual(compare(first, second, most=most).text, expected)
                    outcomes.add((most, expected == "full", expected is None))
        self.assertGreater(len(outcomes), 12)


if __name__ == "__main__":
    unittest.main()
