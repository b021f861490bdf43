"""Point 31: words that remain."""

import random
import unittest

from drawingoffice.errors import BadBound, TooManyRows
from drawingoffice.holding import advance, start
from drawingoffice.lists import Steps
from drawingoffice.words import remains
from small_cards import raised
from stacks import many_lists, search, texts, word


def remains_by_the_words(steps, sought, most):
    def row_of(text):
        held, emitted = advance(steps, start(steps), text)
        endings = [emitted[at:] for at in range(len(emitted) + 1)]
        return held, max([end for end in endings if sought.startswith(end) and end != sought], key=len)

    return search(sorted(set(steps.alphabet + sought)), row_of, lambda text: sought in steps(text), most)


class Remains(unittest.TestCase):
    def check(self, steps, sought, text, most=100):
        found = remains(steps, sought, most=most)
        result = None if text is None else steps(text)
        self.assertEqual((found.found, found.text, found.result), (text is not None, text, result))
        self.assertIs(found.found, text is not None)

    def test_words(self):
        self.check(Steps([]), "ab", "ab")
        self.check(Steps([]), "~", "~")
        self.check(Steps.of(("squeeze", "a")), "aa", None)
        self.check(Steps.of(("squeeze", "a")), "aba", "aba")
        self.check(Steps.of(("map", (("a", "bc"),))), "cb", "aa")
        self.check(Steps.of(("map", (("a", "b"),))), "a", None)
        self.check(Steps.of(("replace", "ab", "")), "ab", "aabb")
        self.check(Steps.of(("replace", "ab", "x")), "ab", None)
        self.check(Steps.of(("replace", "ab", "xy"), ("replace", "yz", "w"), ("map", (("b", "v"),))), "xw", "xw")
        self.check(Steps.of(("replace", "w", ""), ("replace", "ab", "xy"), ("replace", "yz", "w")), "xw", "abz")

    def test_a_word_at_the_end_only(self):
        self.check(Steps.of(("replace", "aab", "c")), "aa", "aa")
        self.check(Steps.of(("replace", "ab", "c"), ("map", (("a", "xyz"),))), "yz", "a")

    def test_the_empty_word(self):
        self.check(Steps.of(("squeeze", "a")), "", "", most=1)
        self.check(Steps([]), "", "", most=1)

    def test_bad_bounds(self):
        for most in (0, -1):
            for sought in ("", "a"):
                self.assertEqual(raised(remains, Steps([]), sought, most=most), (BadBound, {"bound": most}))

    def test_the_bound_at_which_there_is_still_room_and_one_less(self):
        self.check(Steps([]), "ab", "ab", most=2)
        self.assertEqual(raised(remains, Steps([]), "ab", most=1), (TooManyRows, {"bound": 1}))
        squeeze = Steps.of(("squeeze", "a"))
        self.check(squeeze, "aa", None, most=2)
        self.assertEqual(raised(remains, squeeze, "aa", most=1), (TooManyRows, {"bound": 1}))

    def test_a_text_at_which_the_search_stops_needs_no_room(self):
        self.check(Steps([]), "a", "a", most=1)

    def test_held_against_all_short_stacks(self):
        chance = random.Random(9)
        outcomes = {True: 0, False: 0}
        for steps in many_lists(120, seed=10):
            for sought in ["a", "ab", "bb", word(chance, "ab", 3) + "a"]:
                found = remains(steps, sought, most=200)
                least = next((text for text in texts("ab", 6) if sought in steps(text)), None)
                outcomes[found.found] += 1
                if found.found:
                    self.assertIn(sought, found.result)
                    self.assertEqual(found.result, steps(found.text))
                if least is not None or not found.found or len(found.text) <= 6:
                    self.assertEqual(found.text, least)
        self.assertGreater(min(outcomes.values()), 20)

    def test_held_against_the_words_of_the_point(self):
        outcomes = set()
        for steps in many_lists(60, seed=11):
            for sought in ["b", "aa", "aba", "ca"]:
                for most in (1, 2, 3, 4, 6, 9, 30):
                    expected = remains_by_the_words(steps, sought, most)
                    outcomes.add((most, expected == "full", expected is None))
                    if expected == "full":
                        self.assertEqual(raised(remains, steps, sought, most=most), (TooManyRows, {"bound": most}))
                    else:
                        self.assertEqual(remains(steps, sought, most=most).text, expected)
        self.assertGreater(len(outcomes), 12)


if __name__ == "__main__":
    unittest.main()
