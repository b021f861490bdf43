"""Point 54: telling rules apart, and the smallest rules."""

import unittest

from drawingoffice.parting import parting, smallest
from drawingoffice.rules import Rules
from small_rules import EVENTS, all_histories, random_rules


def described(rules):
    return rules.events, rules.moves, rules.barred


def smallest_by_hand(rules, longest):
    """The smallest rules by what short histories can follow; right for rules with few states."""
    events = sorted(rules.events)
    tails = all_histories(events, longest)

    def kind(history):
        return tuple(rules(history + tail) is not None for tail in tails)

    order = []
    for history in tails:
        if rules(history) is not None and kind(history) not in [kind(other) for other in order]:
            order.append(history)
    kinds = [kind(history) for history in order]
    rows = [{event: None if rules(history + [event]) is None else kinds.index(kind(history + [event]))
             for event in events} for history in order]
    used = [event for event in events if any(row[event] != at for at, row in enumerate(rows))]
    barred = [(at, event) for at, row in enumerate(rows) for event in used if row[event] is None]
    return used, [[row[event] or 0 for event in used] for row in rows], barred


class Parting(unittest.TestCase):
    def test_parting(self):
        once = Rules(["release"], [[1], [1]], [(1, "release")])
        every = Rules([], [[]], [])
        self.assertEqual((parting(every, once), parting(once, every)), (["release", "release"], None))
        self.assertIsNone(parting(every, every))

    def test_of_equal_length_the_first_one(self):
        every = Rules(["b", "-a", "+a", "a"], [[0, 0, 0, 0]], [])
        for barred, expected in [(["b", "a"], ["a"]), (["a", "-a", "b"], ["-a"]), (["+a", "-a"], ["+a"])]:
            some = Rules(["b", "-a", "+a", "a"], [[0, 0, 0, 0]], [(0, event) for event in barred])
            self.assertEqual(parting(every, some), expected)
        two = Rules(["b", "a"], [[1, 2], [1, 1], [2, 2]], [(1, "a"), (2, "b")])
        self.assertEqual(parting(every, two), ["a", "b"])
        two = Rules(["b", "a"], [[1, 2], [1, 1], [0, 0]], [(1, "a")])
        self.assertEqual(parting(every, two), ["b", "a"])

    def test_held_against_all_short_histories(self):
        found = set()
        histories = all_histories(EVENTS, 5)
        rules = [random_rules(seed, share=0.1 + seed % 2 * 0.2) for seed in range(60)]
        lets = [[one(history) is not None for history in histories] for one in rules]
        for a, one in zip(rules, lets):
            for b, two in zip(rules[::5], lets[::5]):
                expected = [history for history, left, right in zip(histories, one, two) if left and not right]
                told = parting(a, b)
                if expected or told is None:
                    self.assertEqual(told, expected[0] if expected else None)
                else:
                    self.assertGreater(len(told), 5)
                    self.assertTrue(a(told) is not None and b(told) is None and b(told[:-1]) is not None)
                found.add(None if told is None else len(told))
        self.assertGreaterEqual(found, {None, 1, 2, 3})

    def test_a_new_list(self):
        every, none = Rules([], [[]], []), Rules(["a"], [[0]], [(0, "a")])
        parting(every, none).clear()
        self.assertEqual(parting(every, none), ["a"])


class Smallest(unittest.TestCase):
    def test_all_histories(self):
        for rules in [Rules([], [[]], []), Rules(["b", "a"], [[1, 0], [0, 1]], []), Rules(["a"], [[0], [0]], [(1, "a")])]:
            self.assertEqual(described(smallest(rules)), ([], [[]], []))

    def test_numbers_and_events(self):
        rules = Rules(["z", "b", "a", "n"], [[0, 3, 1, 0], [1, 1, 2, 1], [2, 2, 2, 2], [3, 2, 3, 3]], [(2, "b"), (3, "z")])
        self.assertEqual(described(smallest(rules)), (
            ["a", "b", "z"], [[1, 2, 0], [3, 1, 1], [2, 3, 0], [3, 0, 3]], [(2, "z"), (3, "b")]))

    def test_states_that_let_the_same_are_one(self):
        rules = Rules(["a"], [[1], [2], [3], [0]], [(1, "a"), (3, "a")])
        self.assertEqual(described(smallest(rules)), (["a"], [[1], [0]], [(1, "a")]))
        rules = Rules(["a", "b"], [[1, 2], [1, 1], [2, 2]], [(1, "a"), (2, "a")])
        self.assertEqual(described(smallest(rules)), (["a", "b"], [[1, 1], [0, 1]], [(1, "a")]))

    def test_an_event_that_is_barred_everywhere(self):
        rules = Rules(["b", "a"], [[1, 0], [0, 0]], [(0, "a"), (1, "a")])
        self.assertEqual(described(smallest(rules)), (["a"], [[0]], [(0, "a")]))

    def test_held_against_short_histories(self):
        sizes = set()
        for seed in range(150):
            rules = random_rules(seed)
            told = smallest(rules)
            self.assertEqual(described(told), smallest_by_hand(rules, 4))
            self.assertTrue(told == rules)
            sizes.add((len(rules), len(told)))
        self.assertGreaterEqual(sizes, {(1, 1), (2, 1), (2, 2), (3, 1), (3, 2), (3, 3)})

    def test_rules_are_equal_exactly_if_their_smallest_ones_are_written_alike(self):
        outcomes = set()
        rules = [random_rules(seed) for seed in range(60)]
        for a in rules:
            for b in rules[::5]:
                same = described(smallest(a)) == described(smallest(b))
                self.assertIs(same, a == b)
                outcomes.add((same, a is b))
                for made in (a & b, a | b):
                    self.assertLessEqual(len(smallest(made)), len(made))
                    self.assertTrue(smallest(made) == made)
                    self.assertEqual(described(smallest(smallest(made))), described(smallest(made)))
        self.assertEqual(outcomes, {(True, True), (True, False), (False, False)})

    def test_many_states(self):
        a = Rules(["a"], [[(at + 1) % 12] for at in range(12)], [(11, "a")])
        b = Rules(["b"], [[(at + 1) % 12] for at in range(12)], [(11, "b")])
        self.assertEqual(len(smallest(a)), 12)
        self.assertEqual(len(smallest(a & b)), 144)
        self.assertEqual(len(smallest((a & b) | a)), 12)


if __name__ == "__main__":
    unittest.main()
