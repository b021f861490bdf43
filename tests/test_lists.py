"""Points 25 and 26: stacks and lists of replacements."""

import random
import unittest

from drawingoffice.errors import TooManySteps, TooMuchGrowth
from drawingoffice.lists import Steps
from small_cards import raised
from stacks import left_by, random_steps, texts

SQUEEZE = ("squeeze", "a")


class Calls(unittest.TestCase):
    def test_replace(self):
        cases = [("ab", "x", "abab", "xx"), ("aa", "a", "aaaaa", "aaa"), ("aba", "x", "ababa", "xba"),
                 ("a", "", "banana", "bnn"), ("a", "aa", "aba", "aabaa"), ("ab", "b", "aab", "ab"),
                 ("abc", "", "ab", "ab"), ("a", "b", "", ""), ("!~", "~!", "!!~~", "!~!~")]
        for old, new, text, left in cases:
            self.assertEqual(Steps([("replace", old, new)])(text), left)

    def test_replaced_signs_are_not_searched_again(self):
        self.assertEqual(Steps([("replace", "ab", "a")])("abb"), "ab")
        self.assertEqual(Steps([("replace", "a", "ba")])("aa"), "baba")

    def test_squeeze(self):
        for text, left in [("", ""), ("a", "a"), ("aaab", "ab"), ("baab", "bab"), ("aabaabb", "ababb"), ("bb", "bb")]:
            self.assertEqual(Steps([SQUEEZE])(text), left)

    def test_map(self):
        swap = Steps([("map", (("a", "b"), ("b", "a")))])
        self.assertEqual(swap("abca"), "bacb")
        self.assertEqual(Steps([("map", (("a", ""), ("b", "xyz")))])("abba"), "xyzxyz")
        self.assertEqual(Steps([("map", ())])("abc"), "abc")

    def test_no_steps(self):
        self.assertEqual([Steps([])(text) for text in ("", "abc")], ["", "abc"])

    def test_steps_come_one_after_the_other(self):
        steps = Steps([("replace", "a", "b"), ("replace", "b", "c"), ("squeeze", "c"), ("map", (("c", "ab"),))])
        self.assertEqual(steps("aab"), "ab")

    def test_held_against_the_words_of_the_point(self):
        chance = random.Random(1)
        for _ in range(300):
            rows = random_steps(chance, chance.randint(0, 4), "abc")
            steps = Steps(rows)
            for text in texts("ab", 5):
                self.assertEqual(steps(text), left_by(rows, text))


class Alphabet(unittest.TestCase):
    def test_signs_that_are_read(self):
        steps = Steps([("replace", "dad", "x"), ("squeeze", "c"), ("map", (("b", "yz"), ("a", "")))])
        self.assertEqual(steps.alphabet, "abcd")
        self.assertEqual(Steps([]).alphabet, "")
        self.assertEqual(Steps([("map", ())]).alphabet, "")
        self.assertEqual(Steps([("replace", "~!Az0", "")]).alphabet, "!0Az~")


class Bounds(unittest.TestCase):
    def test_twenty_four_steps_and_one_more(self):
        self.assertEqual(len(Steps([SQUEEZE] * 24)), 24)
        self.assertEqual(raised(Steps, [SQUEEZE] * 25), (TooManySteps, {"step_count": 25}))
        self.assertEqual(raised(Steps, (SQUEEZE,) * 30), (TooManySteps, {"step_count": 30}))

    def growth(self, *steps):
        """The growth of steps that is told when it is more than 1000 times as great."""
        thousand = [("map", (("a", "b" * 40),)), ("map", (("a", "b" * 26),))]
        return raised(Steps, list(steps) + thousand)[1]["growth_factor"] // 1040

    def test_growths(self):
        cases = [(("replace", "ab", "abcde"), 3), (("replace", "ab", "abcd"), 2), (("replace", "ab", "a"), 1),
                 (("replace", "ab", ""), 1), (("replace", "a", "b" * 40), 40), (("replace", "a" * 20, "b" * 40), 2),
                 (("replace", "a" * 20, "b" * 21), 2), (("replace", "a" * 20, "b" * 20), 1), (SQUEEZE, 1),
                 (("map", ()), 1), (("map", (("a", ""), ("b", ""))), 1), (("map", (("a", "x"), ("b", "xyz"))), 3)]
        for step, growth in cases:
            self.assertEqual(self.growth(step), growth, step)
        self.assertEqual(self.growth(*[step for step, growth in cases]), 3 * 2 * 40 * 2 * 2 * 3)

    def test_a_growth_of_a_thousand_and_more(self):
        forty = ("replace", "a", "b" * 40)
        self.assertEqual(len(Steps([forty, ("map", (("b", "c" * 25),))])), 2)
        self.assertEqual(raised(Steps, [forty, ("map", (("b", "c" * 26),))]), (TooMuchGrowth, {"growth_factor": 1040}))
        others = [("replace", "a", "b" * 7), ("replace", "b", "c" * 11), ("replace", "c", "d" * 13)]
        self.assertEqual(raised(Steps, others), (TooMuchGrowth, {"growth_factor": 1001}))
        self.assertEqual(raised(Steps, [forty] * 24), (TooMuchGrowth, {"growth_factor": 40 ** 24}))
        self.assertEqual(raised(Steps, [forty] * 25), (TooManySteps, {"step_count": 25}))
        self.assertEqual(raised(Steps, [("replace", "a", "bb")] * 10), (TooMuchGrowth, {"growth_factor": 1024}))

    def test_of(self):
        forty = ("replace", "a", "b" * 40)
        self.assertEqual(Steps.of(), Steps([]))
        self.assertEqual(Steps.of(SQUEEZE, forty), Steps([SQUEEZE, forty]))
        self.assertEqual(raised(Steps.of, *[SQUEEZE] * 25), (TooManySteps, {"step_count": 25}))
        self.assertEqual(raised(Steps.of, forty, forty), (TooMuchGrowth, {"growth_factor": 1600}))
        self.assertEqual(raised(lambda: Steps([]).of(forty, forty)), (TooMuchGrowth, {"growth_factor": 1600}))


class Operators(unittest.TestCase):
    def setUp(self):
        self.one = Steps([SQUEEZE, ("replace", "ab", "c")])
        self.two = Steps([("map", (("c", "aa"),))])

    def test_sum(self):
        self.assertEqual(list(self.one + self.two), list(self.one) + list(self.two))
        self.assertEqual(self.one + Steps([]), self.one)
        self.assertEqual((len(self.one), len(self.two)), (2, 1))
        twelve = Steps([SQUEEZE] * 12)
        self.assertEqual(len(twelve + twelve), 24)
        self.assertEqual(raised(lambda: twelve + twelve + self.two), (TooManySteps, {"step_count": 25}))
        much = Steps([("map", (("a", "b" * 40),))])
        self.assertEqual(raised(lambda: much + much), (TooMuchGrowth, {"growth_factor": 1600}))

    def test_times(self):
        self.assertEqual(list(self.one * 3), list(self.one) * 3)
        self.assertEqual(3 * self.one, self.one * 3)
        self.assertEqual(self.one * 1, self.one)
        self.assertEqual(self.one * 0, Steps([]))
        self.assertEqual(0 * self.one, Steps([]))
        self.assertEqual(Steps([]) * 1000, Steps([]))
        self.assertEqual(len(self.one * 12), 24)
        self.assertEqual(raised(lambda: self.one * 13), (TooManySteps, {"step_count": 26}))
        self.assertEqual(raised(lambda: 1000 * self.one), (TooManySteps, {"step_count": 2000}))
        self.assertEqual(len(self.two * 9), 9)
        self.assertEqual(raised(lambda: self.two * 10), (TooMuchGrowth, {"growth_factor": 1024}))
        self.assertEqual(raised(lambda: self.two * 25), (TooManySteps, {"step_count": 25}))

    def test_length_iteration_and_equality(self):
        self.assertEqual(len(Steps([])), 0)
        self.assertEqual([step for step in self.one], [SQUEEZE, ("replace", "ab", "c")])
        self.assertTrue(self.one == Steps.of(SQUEEZE, ("replace", "ab", "c")))
        self.assertFalse(self.one == Steps.of(("replace", "ab", "c"), SQUEEZE))
        self.assertFalse(self.one == Steps.of(SQUEEZE))
        self.assertTrue(self.one != self.two)
        for other in [list(self.one), tuple(self.one), None, 2, "ab"]:
            self.assertFalse(self.one == other)

    def test_copies(self):
        rows = [SQUEEZE]
        steps = Steps(rows)
        rows.append(("squeeze", "b"))
        rows[0] = ("squeeze", "c")
        self.assertEqual((list(steps), steps("aabb")), ([SQUEEZE], "abb"))
        list(steps).clear()
        self.assertEqual(len(steps), 1)
        self.assertEqual(rows, [("squeeze", "c"), ("squeeze", "b")])


if __name__ == "__main__":
    unittest.main()
