"""Point 44: facts."""

import unittest

from drawingoffice.errors import BadFact
from drawingoffice.facts import opposites
from small_cards import raised
from small_offices import all_runs, all_stores, holds_by_hand
from test_stores import BAD_RUNS

ONE, TWO = ("main", "+a"), ("q",)


def all_facts(runs):
    """All facts about the runs, those about two equal ones too."""
    single = [(word, run) for word in ("goes", "fails") for run in runs]
    return single + [(word, first, second) for word in ("alike", "apart") for first in runs for second in runs]


class Facts(unittest.TestCase):
    def test_opposites(self):
        self.assertEqual(opposites(("goes", ONE)), [("fails", ONE)])
        self.assertEqual(opposites(("fails", ONE)), [("goes", ONE)])
        self.assertEqual(opposites(("alike", ONE, TWO)), [("fails", ONE), ("fails", TWO), ("apart", ONE, TWO)])
        self.assertEqual(opposites(("apart", ONE, TWO)), [("fails", ONE), ("fails", TWO), ("alike", ONE, TWO)])

    def test_two_equal_runs(self):
        self.assertEqual(opposites(("alike", ONE, ONE)), [("fails", ONE), ("fails", ONE), ("apart", ONE, ONE)])
        self.assertEqual(opposites(("apart", TWO, TWO)), [("fails", TWO), ("fails", TWO), ("alike", TWO, TWO)])

    def test_no_facts(self):
        for value in [(), ("",), ("goes",), ("goes", ONE, TWO), ("fails", ONE, ONE), ("alike", ONE), ("apart",),
                      ("alike", ONE, TWO, TWO), ("sure", ONE), ("Goes", ONE), ("known", ONE, TWO)]:
            self.assertEqual(raised(opposites, value), (BadFact, {"at": 0}), value)

    def test_no_runs(self):
        for run in BAD_RUNS:
            for value in [("goes", run), ("fails", run), ("alike", run, ONE), ("apart", ONE, run)]:
                self.assertEqual(raised(opposites, value), (BadFact, {"at": 0}), value)

    def test_held_against_the_fact_in_small_stores(self):
        facts = all_facts(all_runs(["p", "q"], ["a"], 2))
        for store in all_stores(2, ["p", "q"], ["a"]):
            for fact in facts:
                against = [holds_by_hand(other, store) for other in opposites(fact)]
                self.assertIs(any(against), not holds_by_hand(fact, store))

    def test_returned_lists_are_new(self):
        opposites(("goes", ONE)).clear()
        self.assertEqual(opposites(("goes", ONE)), [("fails", ONE)])


if __name__ == "__main__":
    unittest.main()
