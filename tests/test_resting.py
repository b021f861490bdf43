"""Point 30: lists that rest."""

import unittest

from drawingoffice.comparing import compare
from drawingoffice.errors import BadBound, NeverRests, TooManyRows, TooManySteps, TooMuchGrowth
from drawingoffice.lists import Steps
from drawingoffice.resting import rest
from small_cards import raised
from stacks import many_lists, texts


class Rest(unittest.TestCase):
    def test_the_printed_example(self):
        steps = Steps.of(("map", (("b", "c"),)), ("map", (("a", "b"),)))
        resting = rest(steps, most=50)
        self.assertEqual([len(resting), resting("abca")], [4, "cccc"])
        self.assertEqual(resting, steps * 2)

    def test_lists_that_rest_at_once(self):
        for steps in [Steps([]), Steps.of(("map", ())), Steps.of(("map", (("a", "a"),)))]:
            self.assertEqual(rest(steps, most_runs=1, most=50), Steps([]))
        self.assertEqual(rest(Steps([]), most_runs=1000, most=1), Steps([]))

    def test_one_run(self):
        squeeze = Steps.of(("squeeze", "a"))
        self.assertEqual(rest(squeeze, most_runs=2, most=50), squeeze)
        self.assertEqual(raised(rest, squeeze, most_runs=1, most=50), (NeverRests, {"text": "aa"}))

    def test_the_default_of_most_runs(self):
        chain = Steps([("map", (("c", "d"),)), ("map", (("b", "c"),)), ("map", (("a", "b"),))])
        self.assertEqual(rest(chain, most=50), chain * 3)
        longer = Steps([("map", (("d", "e"),))]) + chain
        self.assertEqual(raised(rest, longer, most=50), (NeverRests, {"text": "a"}))
        self.assertEqual(rest(longer, most_runs=5, most=50), longer * 4)

    def test_never(self):
        swap = Steps.of(("map", (("a", "b"), ("b", "a"))))
        self.assertEqual(raised(rest, swap, most=50), (NeverRests, {"text": "a"}))
        halves = Steps.of(("replace", "bb", "b"))
        self.assertEqual(raised(rest, halves, most_runs=1, most=50), (NeverRests, {"text": "bb"}))
        self.assertEqual(raised(rest, halves, most_runs=3, most=99), (NeverRests, {"text": "b" * 5}))

    def test_errors_in_order(self):
        thirteen = Steps([("squeeze", "a")] * 13)
        much = Steps.of(("map", (("a", "b" * 40),)))
        for most_runs in (0, -2):
            self.assertEqual(raised(rest, thirteen, most_runs=most_runs, most=-7), (BadBound, {"bound": most_runs}))
        for most in (0, -5):
            self.assertEqual(raised(rest, thirteen, most_runs=2, most=most), (BadBound, {"bound": most}))
        self.assertEqual(raised(rest, thirteen, most_runs=2, most=1), (TooManySteps, {"step_count": 26}))
        self.assertEqual(raised(rest, thirteen, most_runs=5, most=1), (TooManySteps, {"step_count": 65}))
        self.assertEqual(raised(rest, much, most_runs=2, most=1), (TooMuchGrowth, {"growth_factor": 1600}))
        self.assertEqual(raised(rest, much, most_runs=3, most=1), (TooMuchGrowth, {"growth_factor": 64000}))
        self.assertEqual(raised(rest, Steps.of(("squeeze", "a")), most=1), (TooManyRows, {"bound": 1}))

    def test_the_list_stays(self):
        steps = Steps.of(("squeeze", "a"), ("map", (("b", "a"),)))
        rest(steps, most=50)
        self.assertEqual(len(steps), 2)

    def test_held_against_all_short_stacks(self):
        outcomes = set()
        for steps in many_lists(250, seed=8):
            try:
                resting = rest(steps, most=80)
            except (NeverRests, TooManyRows, TooMuchGrowth) as error:
                outcomes.add(type(error))
                if isinstance(error, NeverRests):
                    different = [text for text in texts("ab", 5) if (steps * 3)(text) != (steps * 4)(text)]
                    self.assertEqual(error.text, compare(steps * 3, steps * 4, most=80).text)
                    if len(error.text) <= 5:
                        self.assertEqual(error.text, different[0])
                continue
            runs = len(resting) // len(steps) if len(steps) else 0
            outcomes.add(runs)
            self.assertEqual(resting, steps * runs)
            for fewer in range(runs):
                self.assertFalse(compare(steps * fewer, steps * (fewer + 1), most=80).same)
            for text in texts("ab", 5):
                self.assertEqual(steps(resting(text)), resting(text))
        self.assertLessEqual({0, 1, 2, NeverRests}, outcomes)


if __name__ == "__main__":
    unittest.main()
