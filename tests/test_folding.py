"""Point 47: the folded store."""

import random
import unittest

from drawingoffice.binders import Binder
from drawingoffice.changes import Change
from drawingoffice.sheets import Sheet
from small_offices import LOW, MID, all_stores, end_by_hand, fold_by_hand, holds_by_hand, random_facts

NAMES = ["a", "b"]


def free_binder(starts, facts, names=("a", "b", "c")):
    """A binder in which no change touches a limit."""
    return Binder({start: Sheet([MID]) for start in starts}, {name: Change() for name in names}, facts)


class Folding(unittest.TestCase):
    def check(self, facts, first_runs, starts, moves, drawings=("main", "q")):
        binder = free_binder(drawings, facts)
        self.assertEqual(binder.first_runs, first_runs)
        self.assertEqual((binder.store.contents, binder.store.starts), (len(first_runs), starts))
        self.assertEqual(binder.store.moves, moves)
        self.assertEqual([list(sheet) for sheet in binder.sheets], [[MID]] * len(first_runs))

    def test_no_facts(self):
        self.check([], [("main",), ("q",)], {"main": 0, "q": 1}, [])
        self.check([], [], {}, [], drawings=())

    def test_prefixes_are_places_and_fails_facts_have_none(self):
        facts = [("goes", ("main", "+a", "-b")), ("fails", ("q", "+a", "+a"))]
        runs = [("main",), ("q",), ("main", "+a"), ("main", "+a", "-b")]
        self.check(facts, runs, {"main": 0, "q": 1}, [(0, "a", 2), (3, "b", 2)])

    def test_a_step_that_is_taken_back_leads_back(self):
        facts = [("goes", ("main", "+a", "-a", "+b"))]
        self.check(facts, [("main",), ("main", "+a"), ("main", "+b")], {"main": 0}, [(0, "a", 1), (0, "b", 2)], ["main"])
        facts = [("goes", ("main", "-a", "+a"))]
        self.check(facts, [("main",), ("main", "-a")], {"main": 0}, [(1, "a", 0)], ["main"])

    def test_alike_runs_are_merged_and_what_they_lead_to(self):
        facts = [("goes", ("main", "+a", "+b", "+c")), ("apart", ("q", "+b", "+a"), ("main",)),
                 ("alike", ("main", "+a"), ("q",))]
        runs = [("main",), ("q",), ("q", "+b"), ("q", "+b", "+a"), ("q", "+b", "+c")]
        self.check(facts, runs, {"main": 0, "q": 1}, [(0, "a", 1), (1, "b", 2), (2, "a", 3), (2, "c", 4)])

    def test_merged_backwards(self):
        facts = [("goes", ("q", "+a")), ("alike", ("main", "+a"), ("q", "+a"))]
        self.check(facts, [("main",), ("main", "+a")], {"main": 0, "q": 0}, [(0, "a", 1)])

    def test_places_that_are_merged_because_others_were(self):
        facts = [("goes", ("main", "+a", "+b")), ("goes", ("q", "+a", "+c")), ("alike", ("main",), ("q",))]
        runs = [("main",), ("main", "+a"), ("main", "+a", "+b"), ("main", "+a", "+c")]
        self.check(facts, runs, {"main": 0, "q": 0}, [(0, "a", 1), (1, "b", 2), (1, "c", 3)])
        facts = [("goes", ("main", "+a", "+b", "+c")), ("alike", ("main",), ("main", "+a")),
                 ("alike", ("main", "+b"), ("main", "+a", "+b", "+c"))]
        self.check(facts, [("main",), ("main", "+b")], {"main": 0}, [(0, "a", 0), (0, "b", 1), (1, "c", 1)], ["main"])

    def test_circles(self):
        facts = [("alike", ("main", "+a", "+a", "+a"), ("main",)), ("alike", ("main", "+a", "+a"), ("main",))]
        self.check(facts, [("main",)], {"main": 0}, [(0, "a", 0)], ["main"])
        facts = [("alike", ("main", "+a"), ("main", "-a"))]
        self.check(facts, [("main",), ("main", "+a")], {"main": 0}, [(0, "a", 1), (1, "a", 0)], ["main"])

    def test_numbers(self):
        # The steps are taken in Python's order of strings: +b comes before -a.
        facts = [("goes", ("main", "-a")), ("goes", ("main", "+b")), ("goes", ("q", "+a")), ("goes", ("main", "+b", "+c"))]
        runs = [("main",), ("q",), ("main", "+b"), ("main", "-a"), ("q", "+a"), ("main", "+b", "+c")]
        self.check(facts, runs, {"main": 0, "q": 1}, [(0, "b", 2), (1, "a", 4), (2, "c", 5), (3, "a", 0)])
        facts = [("alike", ("z",), ("b",)), ("goes", ("a", "+a"))]
        self.check(facts, [("a",), ("b",), ("c",), ("a", "+a")], {"a": 0, "b": 1, "c": 2, "z": 1}, [(0, "a", 3)], "zcba")

    def test_two_equal_runs_in_one_fact(self):
        run = ("main", "+a")
        self.check([("alike", run, run)], [("main",), run], {"main": 0}, [(0, "a", 1)], ["main"])

    def test_the_order_of_the_facts_plays_no_part(self):
        facts = [("goes", ("main", "+a", "+b")), ("alike", ("main", "+b"), ("q",)), ("alike", ("q", "+a"), ("main", "-c")),
                 ("apart", ("q", "+a"), ("main",)), ("goes", ("main", "-c", "-b", "-b"))]
        told = free_binder(["main", "q"], facts)
        chance = random.Random(3)
        for _ in range(20):
            chance.shuffle(facts)
            other = free_binder(["main", "q"], facts)
            self.assertTrue(other.store == told.store)
            self.assertEqual(other.first_runs, told.first_runs)

    def test_sheets(self):
        changes = {"cut": Change([MID], [LOW]), "back": Change([LOW], [MID])}
        facts = [("goes", ("main", "+cut", "+back")), ("goes", ("q", "-cut"))]
        binder = Binder({"main": Sheet([MID]), "q": Sheet([LOW])}, changes, facts)
        self.assertEqual(binder.first_runs, [("main",), ("q",), ("main", "+cut"), ("q", "-cut"), ("main", "+cut", "+back")])
        self.assertEqual([list(sheet) for sheet in binder.sheets], [[MID], [LOW], [LOW], [MID], [MID]])

    def test_held_against_the_rules_of_the_point(self):
        contents = set()
        for seed in range(400):
            starts = [["p"], ["q", "p"]][seed % 2]
            facts = [fact for fact in random_facts(seed, starts, NAMES, most=6, longest=3) if fact[0] not in ("apart", "fails")]
            binder = free_binder(starts, facts)
            store, first_runs = fold_by_hand(starts, facts)
            self.assertTrue(binder.store == store)
            self.assertEqual(binder.first_runs, first_runs)
            for content, run in enumerate(first_runs):
                self.assertEqual(end_by_hand(store, run), content)
            contents.add(store.contents)
        self.assertGreaterEqual(contents, set(range(1, 9)))

    def test_every_fitting_store_has_the_moves_of_the_folded_one(self):
        for seed in range(150):
            facts = [fact for fact in random_facts(seed, ["p"], NAMES, most=3) if fact[0] not in ("apart", "fails")]
            binder = free_binder(["p"], facts)
            for store in all_stores(2, ["p"], NAMES):
                if all(holds_by_hand(fact, store) for fact in facts):
                    # Each content of the folded store stands for one of the other store, and its moves go there.
                    images = [end_by_hand(store, run) for run in binder.first_runs]
                    self.assertNotIn(None, images)
                    for source, name, target in binder.store.moves:
                        self.assertIn((images[source], name, images[target]), store.moves)

    def test_long_runs_and_many_facts(self):
        chance = random.Random(8)
        names = ["r" + str(number) for number in range(12)]
        runs = [("p",) + tuple(chance.choice("+-") + chance.choice(names) for _ in range(60)) for _ in range(60)]
        binder = free_binder(["p"], [("goes", run) for run in runs], names)
        ends = [binder.store.end(run) for run in runs]
        self.assertNotIn(None, ends)
        self.assertEqual(len(binder.first_runs), binder.store.contents)
        self.assertEqual(len(binder.store.moves), binder.store.contents - 1)
        alike = free_binder(["p"], [("alike", run, ("p",)) for run in runs], names)
        self.assertEqual({alike.store.end(run) for run in runs}, {0})


if __name__ == "__main__":
    unittest.main()
