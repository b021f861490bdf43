"""Point 48: what a binder says."""

import unittest

from drawingoffice.answers import judge, stops, witness
from drawingoffice.binders import Binder
from drawingoffice.changes import Change
from drawingoffice.errors import BadFact, BadRun, NoStore, UnknownChange, UnknownStart
from drawingoffice.facts import opposites
from drawingoffice.sheets import Sheet
from small_cards import raised
from small_offices import LOW, MID, all_runs, all_stores, end_by_hand, fits_by_hand, fold_by_hand, holds_by_hand
from small_offices import random_facts
from test_facts import all_facts
from test_stores import BAD_RUNS

CHANGES = {"cut": Change([MID], [LOW]), "same": Change(), "bad": Change.nowhere()}
ACTIONS = [judge, lambda binder, fact: witness(binder, fact, holds=True),
           lambda binder, fact: witness(binder, fact, holds=False)]


def main_binder(*facts):
    return Binder({"main": Sheet([MID]), "q": Sheet([LOW])}, CHANGES, list(facts))


def small_binders(count, names=("a", "b"), most=3):
    """Binders that some store fits: some with changes that touch nothing, some with one that cuts."""
    found = []
    for seed in range(count):
        starts = [["p"], ["q", "p"]][seed % 2]
        changes = {name: Change() for name in names}
        if seed % 3 == 0:
            changes["a"] = Change([MID], [LOW])
        drawings = {start: Sheet([MID if start == "p" or seed % 5 else LOW]) for start in starts}
        try:
            found.append(Binder(drawings, changes, random_facts(seed, starts, list(names), most=most)))
        except NoStore:
            pass
    return found


class Judge(unittest.TestCase):
    def check(self, binder, fact, answer):
        self.assertEqual(judge(binder, fact), answer)
        self.assertEqual(witness(binder, fact, holds=True) is None, answer == "never")
        self.assertEqual(witness(binder, fact, holds=False) is None, answer == "sure")

    def test_answers(self):
        binder = main_binder(("goes", ("main", "+cut")), ("fails", ("main", "+same")))
        for fact, answer in [
            (("goes", ("main", "+cut")), "sure"), (("fails", ("main", "+cut")), "never"),
            (("goes", ("main", "+cut", "-cut")), "sure"), (("alike", ("main", "+cut", "-cut"), ("main",)), "sure"),
            (("goes", ("main", "-cut")), "never"), (("fails", ("main", "-cut")), "sure"),
            (("goes", ("main", "+same")), "never"), (("fails", ("main", "+same", "+same")), "sure"),
            (("alike", ("main", "+cut"), ("q",)), "open"), (("apart", ("main", "+cut"), ("q",)), "open"),
            (("apart", ("main",), ("q",)), "sure"), (("alike", ("main",), ("q",)), "never"),
            (("goes", ("q", "-cut")), "open"), (("fails", ("q", "+bad")), "sure"), (("goes", ("q", "-bad")), "never"),
            (("goes", ("q",)), "sure"), (("fails", ("q",)), "never"),
        ]:
            self.check(binder, fact, answer)

    def test_two_equal_runs_in_one_fact(self):
        binder = main_binder(("goes", ("main", "+cut")))
        run, other = ("main", "+cut"), ("main", "+same")
        self.check(binder, ("alike", run, run), "sure")
        self.check(binder, ("apart", run, run), "never")
        self.check(binder, ("alike", other, other), "open")
        self.check(binder, ("apart", other, other), "never")

    def test_no_facts(self):
        self.check(main_binder(), ("goes", ("main", "+cut")), "open")
        self.check(main_binder(), ("alike", ("main",), ("main",)), "sure")

    def test_witnesses(self):
        binder = main_binder(("goes", ("main", "+cut")))
        fact = ("alike", ("main", "+cut"), ("q",))
        self.assertEqual(witness(binder, fact, holds=True).starts, {"main": 0, "q": 1})
        self.assertEqual(witness(binder, fact, holds=True).moves, [(0, "cut", 1)])
        self.assertEqual(witness(binder, fact, holds=False).moves, [(0, "cut", 2)])
        # The first opposite of which some store fits is that the second run fails.
        fact = ("alike", ("main",), ("main", "+same"))
        self.assertEqual(witness(binder, fact, holds=False).moves, [(0, "cut", 2)])
        self.assertEqual(witness(binder, fact, holds=True).moves, [(0, "cut", 2), (0, "same", 0)])

    def test_held_against_the_stores_that_fit(self):
        stores = all_stores(2, ["p"], ["a", "b"]) + all_stores(2, ["p", "q"], ["a", "b"])
        answers = {}
        for binder in small_binders(30):
            drawings, changes, facts = binder.drawings, binder.changes, binder.facts
            fitting = [store for store in stores if fits_by_hand(drawings, changes, facts, store)]
            for fact in all_facts(all_runs(list(drawings), ["a", "b"], 1))[::4]:
                answer = judge(binder, fact)
                answers[answer] = answers.get(answer, 0) + 1
                found = {holds_by_hand(fact, store) for store in fitting}
                self.assertLessEqual(found, {"sure": {True}, "never": {False}, "open": {True, False}}[answer])
                for holds in (True, False):
                    store = witness(binder, fact, holds=holds)
                    self.assertEqual(store is None, answer == ("never" if holds else "sure"))
                    if store is not None:
                        self.assertTrue(fits_by_hand(drawings, changes, facts, store))
                        self.assertIs(holds_by_hand(fact, store), holds)
        self.assertGreater(min(answers.values()), 30)
        self.assertEqual(len(answers), 3)

    def test_a_witness_is_the_folded_store_with_the_fact_or_its_first_possible_opposite(self):
        for binder in small_binders(24):
            drawings, changes, facts = binder.drawings, binder.changes, binder.facts
            for fact in all_facts(all_runs(list(drawings), ["a", "b"], 1))[::11]:
                for holds, others in [(True, [fact]), (False, opposites(fact))]:
                    expected = None
                    for other in others:
                        store, _ = fold_by_hand(list(drawings), facts + [other])
                        if expected is None and fits_by_hand(drawings, changes, facts + [other], store):
                            expected = store
                    self.assertTrue(witness(binder, fact, holds=holds) == expected)

    def test_errors(self):
        binder = main_binder()
        for action in ACTIONS:
            for value in [(), ("goes",), ("open", ("main",)), ("alike", ("main",)), ("goes", ("main", "cut"))]:
                self.assertEqual(raised(action, binder, value), (BadFact, {"at": 0}))
            for fact, error in [
                (("apart", ("main", "+none"), ("b",)), (UnknownStart, {"name": "b"})),
                (("alike", ("a", "+none"), ("b",)), (UnknownStart, {"name": "a"})),
                (("alike", ("q", "+cut"), ("q", "-cut", "+x", "+w")), (UnknownChange, {"name": "x"})),
                (("fails", ("main", "-y", "+x")), (UnknownChange, {"name": "y"})),
            ]:
                self.assertEqual(raised(action, binder, fact), error)

    def test_the_binder_stays(self):
        binder = main_binder(("goes", ("main", "+cut")))
        for action in ACTIONS:
            action(binder, ("alike", ("main", "+cut"), ("q",)))
        self.assertEqual((len(binder), binder.store.contents), (1, 3))


class Stops(unittest.TestCase):
    def test_stops(self):
        binder = main_binder(("goes", ("main", "+cut")), ("fails", ("main", "+same")))
        for run, expected in [
            (("main",), [0]), (("main", "+cut"), [1]), (("main", "+same"), [0]), (("main", "+same", "+cut"), [0]),
            (("main", "+cut", "+same"), [1, 2]), (("main", "+cut", "+same", "-same"), [1, 3]), (("q", "+cut"), [0]),
            (("q", "-cut"), [0, 1]), (("q", "-cut", "-cut"), [0, 1]), (("q", "+same", "+bad", "+same"), [0, 1]),
            (("main", "+cut", "-cut", "+same"), [2]), (("q", "+same", "+same"), [0, 1, 2]),
        ]:
            self.assertEqual(stops(binder, run), expected, run)

    def test_errors(self):
        binder = main_binder()
        for run in BAD_RUNS:
            self.assertEqual(raised(stops, binder, run), (BadRun, {"run": run}))
        self.assertEqual(raised(stops, binder, ("none", "+x")), (UnknownStart, {"name": "none"}))
        self.assertEqual(raised(stops, binder, ("main", "+cut", "-x", "+y")), (UnknownChange, {"name": "x"}))

    def test_held_against_judge_and_the_stores_told_by_witness(self):
        lengths = set()
        for binder in small_binders(60):
            for run in all_runs(list(binder.drawings), ["a", "b"], 3)[::7]:
                found = []
                for size in range(1, len(run) + 1):
                    goes = [("goes", run[:size])]
                    fails = [("fails", run[:size + 1])] if size < len(run) else []
                    try:
                        longer = Binder(binder.drawings, binder.changes, binder.facts + goes + fails)
                    except NoStore:
                        continue
                    found.append(size - 1)
                    self.assertIn("sure", {judge(longer, fact) for fact in goes + fails})
                self.assertEqual(stops(binder, run), found)
                lengths.add(len(found))
                going = [size - 1 for size in range(1, len(run) + 1) if judge(binder, ("goes", run[:size])) != "never"]
                self.assertEqual(found[-1], going[-1])
                for size in range(1, len(run) + 1):
                    for holds in (True, False):
                        store = witness(binder, ("goes", run[:size]), holds=holds)
                        if store is not None:
                            led = [at for at in range(len(run)) if end_by_hand(store, run[:at + 1]) is not None]
                            self.assertIn(led[-1], found)
        self.assertGreaterEqual(lengths, {1, 2, 3})

    def test_a_new_list(self):
        binder = main_binder()
        stops(binder, ("main", "+same")).clear()
        self.assertEqual(stops(binder, ("main", "+same")), [0, 1])


if __name__ == "__main__":
    unittest.main()
