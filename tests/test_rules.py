"""Points 53 and 54: rules."""

import unittest

from drawingoffice.errors import BadRules, UnknownState
from drawingoffice.rules import Rules
from small_cards import raised
from small_rules import EVENTS, all_histories, lets_by_hand, random_rules


def sample():
    return Rules(["release", "+a", "z"], [[1, 0, 1], [0, 2, 1], [2, 2, 2]],
                 [(2, "+a"), (1, "z"), (1, "release"), (2, "+a"), (2, "release")])


def described(rules):
    return rules.events, rules.moves, rules.barred


class Making(unittest.TestCase):
    def test_properties(self):
        rules = sample()
        self.assertEqual(rules.events, ["release", "+a", "z"])
        self.assertEqual(rules.moves, [[1, 0, 1], [0, 2, 0], [0, 0, 2]])
        self.assertEqual(rules.barred, [(1, "release"), (1, "z"), (2, "release"), (2, "+a")])
        self.assertEqual(len(rules), 3)

    def test_one_state_and_twelve(self):
        self.assertEqual(described(Rules([], [[]], [])), ([], [[]], []))
        self.assertEqual(len(Rules([], [[]], [])), 1)
        rules = Rules(["release"], [[(at + 1) % 12] for at in range(12)], [(11, "release")])
        self.assertEqual((len(rules), rules(["release"] * 11), rules(["release"] * 12)), (12, 11, None))

    def test_events_that_are_listed_twice(self):
        for events in [["a", "a"], ["+a", "release", "+a"]]:
            self.assertEqual(raised(Rules, events, [], [(5, "x")]), (BadRules, {"where": "events"}))
        self.assertEqual(Rules(["+a", "-a", "a"], [[0, 0, 0]], []).events, ["+a", "-a", "a"])

    def test_bad_moves(self):
        for moves in [[], [[]], [[0]], [[0, 0, 0]], [[0, 0], [0]], [[0, 1]], [[0, -1]], [[0, 0], [2, 1]]]:
            self.assertEqual(raised(Rules, ["a", "b"], moves, [(9, "x")]), (BadRules, {"where": "moves"}), moves)
        self.assertEqual(raised(Rules, [], [], []), (BadRules, {"where": "moves"}))

    def test_an_entry_at_a_barred_pair_is_a_state_too(self):
        self.assertEqual(raised(Rules, ["a"], [[1]], [(0, "a")]), (BadRules, {"where": "moves"}))

    def test_bad_barred_pairs(self):
        for pair in [(2, "a"), (-1, "a"), (0, "c"), (0, ""), (5, "x")]:
            self.assertEqual(raised(Rules, ["a", "b"], [[0, 0], [0, 1]], [(0, "a"), pair]),
                             (BadRules, {"where": "barred"}))

    def test_a_pair_that_is_passed_twice(self):
        self.assertEqual(Rules(["a"], [[0]], [(0, "a"), (0, "a")]).barred, [(0, "a")])

    def test_copies(self):
        events, moves, barred = ["a", "b"], [[0, 1], [1, 0]], [(0, "a")]
        rules = Rules(events, moves, barred)
        events.clear(), moves[0].clear(), moves.pop(), barred.clear()
        for told in [rules.events, rules.moves, rules.moves[0], rules.barred]:
            told.clear()
        self.assertEqual(described(rules), (["a", "b"], [[0, 1], [1, 0]], [(0, "a")]))

    def test_tuples_in_the_place_of_lists(self):
        rules = Rules(("a",), ((0,),), ((0, "a"),))
        self.assertEqual(described(rules), (["a"], [[0]], [(0, "a")]))


class Steps(unittest.TestCase):
    def test_next_state(self):
        rules = sample()
        told = [[rules.next_state(state, event) for event in rules.events] for state in range(3)]
        self.assertEqual(told, [[1, 0, 1], [None, 2, None], [None, None, 2]])
        for state in range(3):
            for event in ["-a", "other", "+z"]:
                self.assertEqual(rules.next_state(state, event), state)

    def test_unknown_states(self):
        for state in (3, -1, 10 ** 60 - 1):
            for event in ("release", "other"):
                self.assertEqual(raised(sample().next_state, state, event), (UnknownState, {"state": state}))

    def test_histories(self):
        rules = sample()
        for history, state in [([], 0), (["+a", "+a"], 0), (["release"], 1), (["release", "other", "+a", "z"], 2),
                               (["z", "+a", "z", "release"], None), (["release", "release", "+a"], None)]:
            self.assertEqual(rules(history), state)
            self.assertEqual(rules(tuple(history)), state)

    def test_held_against_the_lists(self):
        for seed in range(60):
            rules = random_rules(seed)
            for history in all_histories(EVENTS + ["x"], 3):
                self.assertEqual(rules(history), lets_by_hand(rules, history))


class Operators(unittest.TestCase):
    def test_held_against_all_short_histories(self):
        # With at most two states each, a history of at most four events tells the rules apart if any does.
        outcomes = set()
        histories = all_histories(EVENTS, 5)
        lets = []
        for seed in range(40):
            rules = random_rules(seed, most_states=2)
            lets.append((rules, [rules(history) is not None for history in histories]))
        for a, one in lets:
            for b, two in lets[::3]:
                both, either = a & b, a | b
                self.assertEqual([both(history) is not None for history in histories],
                                 [left and right for left, right in zip(one, two)])
                self.assertEqual([either(history) is not None for history in histories],
                                 [left or right for left, right in zip(one, two)])
                events = a.events + [event for event in b.events if event not in a.events]
                self.assertEqual((both.events, either.events), (events, events))
                below = all(right for left, right in zip(one, two) if left)
                above = all(left for left, right in zip(one, two) if right)
                outcomes.add((below, above))
                for told, expected in [(a <= b, below), (a < b, below and not above), (a >= b, above),
                                       (a > b, above and not below), (a == b, below and above),
                                       (a != b, not (below and above))]:
                    self.assertIs(told, expected)
        self.assertEqual(len(outcomes), 4)

    def test_rules_that_let_the_same_with_different_states_and_events(self):
        once = Rules(["release"], [[1], [1]], [(1, "release")])
        more = Rules(["z", "release"], [[2, 1], [0, 0], [0, 1]], [(1, "release")])
        more = more & Rules(["release", "y"], [[1, 0], [1, 1]], [(1, "release")])
        self.assertTrue(once == more and more == once and once <= more and once >= more)
        self.assertFalse(once < more or once > more or once != more)
        every = Rules([], [[]], [])
        self.assertTrue(every == Rules(["a", "b"], [[1, 0], [1, 1]], []))
        self.assertTrue(once < every and every > once and once != every)
        none = Rules(["a"], [[0]], [(0, "a")])
        self.assertFalse(none <= once or once <= none)
        self.assertTrue((none & once) < none and (none & once) < once and none < (none | once) and once < (none | once))

    def test_events_that_one_does_not_list(self):
        a = Rules(["a"], [[0]], [(0, "a")])
        b = Rules(["b"], [[0]], [(0, "b")])
        self.assertEqual([history for history in all_histories("ab", 2) if (a & b)(history) is not None], [[]])
        self.assertEqual([history for history in all_histories("ab", 2) if (a | b)(history) is not None],
                         [[], ["a"], ["b"], ["a", "a"], ["b", "b"]])

    def test_more_than_twelve_states(self):
        a = Rules(["a"], [[(at + 1) % 11] for at in range(11)], [(10, "a")])
        b = Rules(["b"], [[(at + 1) % 11] for at in range(11)], [(10, "b")])
        both = a & b
        self.assertGreater(len(both), 12)
        self.assertIsNone(both(["a"] * 11))
        self.assertIsNotNone(both(["a", "b"] * 10))
        self.assertTrue(both <= a and both <= b)
        self.assertIsNotNone((a | b)(["a", "b"] * 10 + ["a"]))
        self.assertIsNone((a | b)(["a", "b"] * 11))

    def test_operands_stay(self):
        a, b = sample(), Rules(["y"], [[0]], [(0, "y")])
        told = described(a), described(b)
        a & b, a | b, a <= b, a < b, a == b
        self.assertEqual((described(a), described(b)), told)

    def test_equal_to_nothing_else(self):
        for other in [None, 1, [], (["a"], [[0]], [])]:
            self.assertIs(sample() == other, False)


if __name__ == "__main__":
    unittest.main()
