"""Points 42 and 43: runs and stores."""

import unittest

from drawingoffice.errors import BadRun, BadStore, UnknownStart
from drawingoffice.stores import Store
from small_cards import raised
from small_offices import all_runs, all_stores, end_by_hand

BAD_RUNS = [(), ("",), ("Main",), ("main", "fix"), ("main", "+"), ("main", "-"), ("main", ""), ("main", "*fix"),
            ("main", "+fix", "+Fix"), ("+fix",), ("a234567890123",), ("main", "+a234567890123"), ("main", "++a"),
            ("main", "+fix "), ("main", "+ fix"), ("main", "+a", "main")]


def sample():
    return Store(3, {"q": 2, "main": 0, "also": 0}, [(2, "b", 2), (1, "a", 2), (0, "b", 1), (0, "a", 1)])


class Making(unittest.TestCase):
    def test_properties(self):
        store = sample()
        self.assertEqual(store.contents, 3)
        self.assertEqual(list(store.starts.items()), [("also", 0), ("main", 0), ("q", 2)])
        self.assertEqual(store.moves, [(0, "a", 1), (0, "b", 1), (1, "a", 2), (2, "b", 2)])

    def test_no_contents(self):
        store = Store(0, {}, [])
        self.assertEqual((store.contents, store.starts, store.moves), (0, {}, []))
        self.assertEqual(raised(store.end, ("main",)), (UnknownStart, {"name": "main"}))
        for starts, moves in [({"main": 0}, []), ({}, [(0, "a", 0)])]:
            self.assertEqual(raised(Store, 0, starts, moves), (BadStore, {}))

    def test_bad_stores(self):
        for starts, moves in [
            ({"Main": 0}, []), ({"": 0}, []), ({"main": 2}, []), ({"main": -1}, []),
            ({}, [(0, "", 1)]), ({}, [(0, "+a", 1)]), ({}, [(2, "a", 0)]), ({}, [(0, "a", 2)]), ({}, [(-1, "a", 0)]),
            ({}, [(0, "a", -1)]),
            ({}, [(0, "a", 0), (0, "a", 1)]), ({}, [(0, "a", 1), (1, "a", 1)]),
        ]:
            self.assertEqual(raised(Store, 2, starts, moves), (BadStore, {}), (starts, moves))

    def test_a_move_that_is_passed_twice(self):
        for move in [(0, "a", 1), (1, "a", 1)]:
            self.assertEqual(raised(Store, 2, {}, [move, move]), (BadStore, {}))

    def test_what_is_allowed(self):
        store = Store(2, {"frame": 1, "b": 1}, [(0, "a", 1), (1, "a", 0), (0, "frame", 0), (0, "b", 1), (1, "c", 1)])
        self.assertEqual(len(store.moves), 5)
        self.assertEqual(store.end(("frame", "+a", "+b", "-a", "+frame", "-frame")), 0)

    def test_equal(self):
        self.assertTrue(sample() == sample())
        one = Store(2, {"a": 0}, [(0, "r", 1)])
        for other in [Store(3, {"a": 0}, [(0, "r", 1)]), Store(2, {"a": 1}, [(0, "r", 1)]),
                      Store(2, {"b": 0}, [(0, "r", 1)]), Store(2, {"a": 0}, [(1, "r", 0)]),
                      Store(2, {"a": 0}, [(0, "s", 1)]), Store(2, {"a": 0}, []), Store(2, {"a": 0, "b": 0}, [(0, "r", 1)]),
                      None, 2, [2, {"a": 0}, [(0, "r", 1)]]]:
            self.assertIs(one == other, False)
        self.assertTrue(one == Store(2, {"a": 0}, ((0, "r", 1),)))

    def test_copies(self):
        starts, moves = {"main": 0}, [(0, "a", 1)]
        store = Store(2, starts, moves)
        starts["other"] = 1
        moves.clear()
        store.starts.clear()
        store.moves.append((1, "b", 1))
        self.assertEqual((store.starts, store.moves), ({"main": 0}, [(0, "a", 1)]))
        self.assertEqual(raised(store.end, ("other",)), (UnknownStart, {"name": "other"}))


class Ends(unittest.TestCase):
    def test_ends(self):
        store = sample()
        for run, content in [(("main",), 0), (("q",), 2), (("also", "+a"), 1), (("also", "+a", "+a"), 2),
                             (("main", "+b", "+a", "+b", "+b"), 2), (("q", "-b", "-b", "-a", "-b"), 0),
                             (("main", "-a"), None), (("main", "+b", "+b"), None), (("q", "+a"), None),
                             (("main", "+none"), None), (("main", "+none", "+a"), None), (("main", "-a", "+a"), None)]:
            self.assertEqual(store.end(run), content, run)

    def test_bad_runs(self):
        for run in BAD_RUNS:
            self.assertEqual(raised(sample().end, run), (BadRun, {"run": run}))

    def test_a_bad_run_comes_before_an_unknown_start(self):
        store = sample()
        self.assertEqual(raised(store.end, ("none", "a")), (BadRun, {"run": ("none", "a")}))
        self.assertEqual(raised(store.end, ("none", "+a")), (UnknownStart, {"name": "none"}))

    def test_held_against_walking_the_moves_by_hand(self):
        runs = all_runs(["p", "q"], ["a", "b"], 3)
        ends = set()
        for store in all_stores(2, ["p", "q"], ["a", "b"]):
            for run in runs:
                end = store.end(run)
                self.assertEqual(end, end_by_hand(store, run))
                ends.add(end)
        self.assertEqual(ends, {None, 0, 1})

    def test_long_runs(self):
        store = Store(61, {"main": 0}, [(at, "a", at + 1) for at in range(60)])
        self.assertEqual(store.end(("main",) + ("+a",) * 60), 60)
        self.assertIsNone(store.end(("main",) + ("+a",) * 61))


if __name__ == "__main__":
    unittest.main()
