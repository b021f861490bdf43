"""Points 46 and 47: binders."""

import unittest

from drawingoffice.binders import Binder, fits
from drawingoffice.changes import Change
from drawingoffice.errors import BadFact, BadName, NoStore, UnknownChange, UnknownStart
from drawingoffice.sheets import Sheet
from drawingoffice.stores import Store
from small_cards import raised
from small_offices import LOW, MID, ROOM, all_stores, fits_by_hand, fold_by_hand, holds_by_hand, random_facts
from small_offices import sheets_by_hand, sheets_by_runs
from test_stores import BAD_RUNS

CUT = Change([MID], [LOW])
MAIN = {"main": Sheet([MID])}
CHANGES = {"cut": CUT, "same": Change()}


def fault_by_hand(drawings, changes, facts):
    """The pair (at, by) of point 46 from the folded stores of all shorter lists of facts; None if a store fits."""
    for at in range(len(facts)):
        store, _ = fold_by_hand(list(drawings), facts[:at + 1])
        if sheets_by_hand(store, drawings, changes) is None:
            return at, None
        broken = [index for index, fact in enumerate(facts[:at + 1]) if not holds_by_hand(fact, store)]
        if broken:
            return at, broken[0]
    return None


class Making(unittest.TestCase):
    def test_what_was_passed(self):
        facts = [("goes", ("q", "+same")), ("fails", ("main", "-cut")), ("goes", ("q", "+same"))]
        binder = Binder({"q": Sheet([]), "main": Sheet([MID])}, {"same": Change(), "cut": CUT}, facts)
        self.assertEqual([(name, list(sheet)) for name, sheet in binder.drawings.items()], [("main", [MID]), ("q", [])])
        self.assertEqual(list(binder.changes), ["cut", "same"])
        self.assertTrue(binder.changes["cut"] == CUT)
        self.assertEqual((binder.facts, list(binder), len(binder)), (facts, facts, 3))

    def test_nothing_at_all(self):
        binder = Binder({}, {}, [])
        self.assertEqual((binder.drawings, binder.changes, binder.facts, len(binder)), ({}, {}, [], 0))
        self.assertTrue(binder.store == Store(0, {}, []))
        self.assertEqual((binder.sheets, binder.first_runs), ([], []))

    def test_copies(self):
        drawings, changes, facts = dict(MAIN), dict(CHANGES), [("goes", ("main", "+cut"))]
        binder = Binder(drawings, changes, facts)
        drawings.clear(), changes.clear(), facts.clear()
        for told in (binder.drawings, binder.changes, binder.facts, binder.sheets, binder.first_runs):
            self.assertTrue(told)
            told.clear()
        self.assertEqual((list(binder.drawings), list(binder.changes), len(binder)), (["main"], ["cut", "same"], 1))
        self.assertEqual(binder.facts, [("goes", ("main", "+cut"))])
        self.assertEqual((len(binder.sheets), len(binder.first_runs)), (2, 2))

    def test_facts_in_a_tuple(self):
        self.assertEqual(Binder(MAIN, CHANGES, (("goes", ("main",)),)).facts, [("goes", ("main",))])

    def test_one_name_for_a_start_and_a_revision(self):
        binder = Binder({"frame": Sheet([MID])}, {"frame": CUT}, [("goes", ("frame", "+frame"))])
        self.assertEqual(binder.first_runs, [("frame",), ("frame", "+frame")])


class Wrong(unittest.TestCase):
    def check(self, drawings, changes, facts, error, **fields):
        self.assertEqual(raised(Binder, drawings, changes, facts), (error, fields))

    def test_bad_names(self):
        sheet = Sheet([])
        self.check({"z": sheet, "Q": sheet, "B": sheet}, {"A": CUT}, [()], BadName, name="B")
        self.check({"z": sheet}, {"b": CUT, "": CUT, "A": CUT}, [()], BadName, name="")
        self.check({"a b": sheet}, {}, [], BadName, name="a b")
        self.check({"a234567890123": sheet}, {}, [], BadName, name="a234567890123")

    def test_bad_facts(self):
        good = ("goes", ("none", "+none"))
        for bad in [(), ("goes",), ("sure", ("main",)), ("alike", ("main",)), ("fails", ("main",), ("main",))]:
            self.check(MAIN, CHANGES, [good, bad, ()], BadFact, at=1)
        for run in BAD_RUNS:
            self.check(MAIN, CHANGES, [("apart", ("main",), run)], BadFact, at=0)

    def test_unknown_starts_come_before_unknown_changes(self):
        facts = [("goes", ("main", "+none")), ("alike", ("main", "-nil"), ("b",)), ("fails", ("a",))]
        self.check(MAIN, CHANGES, facts, UnknownStart, name="b")
        self.check(MAIN, CHANGES, facts[:1], UnknownChange, name="none")
        self.check(MAIN, CHANGES, [("apart", ("main", "+cut"), ("main", "-nil", "+none"))], UnknownChange, name="nil")
        self.check(MAIN, {}, [("fails", ("main", "+cut"))], UnknownChange, name="cut")

    def test_all_other_errors_come_before_no_store(self):
        facts = [("fails", ("main",)), ("goes", ("main", "+none"))]
        self.check(MAIN, CHANGES, facts, UnknownChange, name="none")
        self.check(MAIN, CHANGES, facts[:1] + [("goes",)], BadFact, at=1)
        self.check(MAIN, CHANGES, facts[:1], NoStore, at=0, by=0)

    def test_facts_that_do_not_hold(self):
        cut, same = ("main", "+cut"), ("main", "+same")
        self.check(MAIN, CHANGES, [("goes", same), ("fails", cut), ("goes", cut), ("fails", same)], NoStore, at=2, by=1)
        self.check(MAIN, CHANGES, [("apart", same, ("main",)), ("alike", same, ("main",)), ("fails", same)],
                   NoStore, at=1, by=0)
        self.check(MAIN, CHANGES, [("goes", same), ("apart", same, same)], NoStore, at=1, by=1)
        self.check(MAIN, CHANGES, [("fails", ("main", "+same", "-same")), ("fails", cut), ("goes", same)],
                   NoStore, at=2, by=0)

    def test_drawings_that_are_not_borne(self):
        self.check(MAIN, CHANGES, [("goes", ("main", "+cut")), ("goes", ("main", "-cut"))], NoStore, at=1, by=None)
        self.check(MAIN, CHANGES, [("alike", ("main", "+cut"), ("main",))], NoStore, at=0, by=None)
        two = {"a": Sheet([MID]), "b": Sheet([])}
        self.check(two, {}, [("goes", ("a",)), ("alike", ("a",), ("b",))], NoStore, at=1, by=None)
        self.check(MAIN, {"bad": Change.nowhere()}, [("goes", ("main", "-bad"))], NoStore, at=0, by=None)
        # The drawings come first where a fact does not hold, too.
        self.check(MAIN, CHANGES, [("fails", ("main", "+same")), ("goes", ("main", "+same", "-cut"))],
                   NoStore, at=1, by=None)

    def test_at_and_by_held_against_all_shorter_lists(self):
        outcomes = set()
        for seed in range(400):
            drawings = {"p": Sheet([MID]), "q": Sheet([MID])}
            changes = {"a": Change([MID], [LOW]), "b": Change()} if seed % 2 else {"a": Change(), "b": Change([LOW])}
            facts = random_facts(seed, ["p", "q"], ["a", "b"], most=6)
            told = raised(Binder, drawings, changes, facts)
            fault = fault_by_hand(drawings, changes, facts)
            if fault is None:
                self.assertIsNone(told)
            else:
                self.assertEqual(told, (NoStore, {"at": fault[0], "by": fault[1]}))
            outcomes.add(fault)
        self.assertGreater(len(outcomes), 12)
        self.assertIn(None, outcomes)

    def test_no_error_where_a_small_store_fits(self):
        stores = all_stores(2, ["p"], ["a", "b"])
        drawings, changes = {"p": Sheet([MID])}, {"a": Change(kept=[MID]), "b": Change()}
        found = 0
        for seed in range(250):
            facts = random_facts(seed, ["p"], ["a", "b"], most=4)
            some = [store for store in stores if all(holds_by_hand(fact, store) for fact in facts)]
            told = raised(Binder, drawings, changes, facts)
            if some:
                self.assertIsNone(told)
                found += 1
        self.assertGreater(found, 100)


class Further(unittest.TestCase):
    def test_further_facts(self):
        binder = Binder(MAIN, CHANGES, [("goes", ("main", "+cut"))])
        more = [("fails", ("main", "+same"))]
        longer = binder + more
        self.assertEqual(longer.facts, [("goes", ("main", "+cut")), ("fails", ("main", "+same"))])
        self.assertEqual((len(binder), len(binder + []), len(binder + ())), (1, 1, 1))
        self.assertEqual(more, [("fails", ("main", "+same"))])
        more.clear()
        self.assertEqual(len(longer), 2)
        self.assertEqual(list(longer.drawings), ["main"])

    def test_errors_are_those_of_the_whole_list(self):
        binder = Binder(MAIN, CHANGES, [("goes", ("main", "+cut")), ("fails", ("main", "+same"))])
        for facts, error in [
            ([("goes", ("main",)), ()], (BadFact, {"at": 3})),
            ([("goes", ("none",))], (UnknownStart, {"name": "none"})),
            ([("goes", ("main", "+none"))], (UnknownChange, {"name": "none"})),
            ([("goes", ("main", "+same"))], (NoStore, {"at": 2, "by": 1})),
            ([("goes", ("main",)), ("goes", ("main", "-cut"))], (NoStore, {"at": 3, "by": None})),
        ]:
            self.assertEqual(raised(lambda: binder + facts), error)
            self.assertEqual(len(binder), 2)


class Fits(unittest.TestCase):
    def test_what_fits(self):
        binder = Binder({"main": Sheet([MID]), "q": Sheet([LOW])}, CHANGES, [("alike", ("main", "+cut"), ("q",))])
        self.assertIs(fits(binder, binder.store), True)
        starts = {"main": 0, "q": 1}
        for store, expected in [
            (Store(2, starts, [(0, "cut", 1)]), True),
            (Store(4, {**starts, "z": 3}, [(0, "cut", 1), (2, "bad", 3), (1, "same", 1)]), True),
            (Store(2, starts, []), False),
            (Store(2, {"main": 0}, [(0, "cut", 1)]), False),
            (Store(2, starts, [(0, "cut", 1), (1, "bad", 1)]), False),
            (Store(2, starts, [(0, "cut", 1), (0, "same", 1)]), False),
            (Store(1, {"main": 0, "q": 0}, [(0, "cut", 0)]), False),
        ]:
            self.assertIs(fits(binder, store), expected)

    def test_any_number_of_contents(self):
        binder = Binder({}, {}, [])
        self.assertTrue(fits(binder, Store(0, {}, [])))
        self.assertTrue(fits(binder, Store(3, {"main": 1}, [(0, "a", 0)])))

    def test_the_folded_store_fits(self):
        for seed in range(200):
            facts = random_facts(seed, ["p", "q"], ["a", "b"])
            try:
                binder = Binder({"p": Sheet([MID]), "q": Sheet([ROOM, MID])}, {"a": CUT, "b": Change()}, facts)
            except NoStore:
                continue
            self.assertTrue(fits(binder, binder.store))
            self.assertTrue(fits_by_hand(binder.drawings, binder.changes, facts, binder.store))

    def test_held_against_all_runs_in_small_stores(self):
        stores = all_stores(2, ["p", "q"], ["a", "b"]) + all_stores(2, ["p"], ["a"])
        outcomes = {True: 0, False: 0}
        for seed in range(60):
            facts = random_facts(seed, ["p", "q"], ["a", "b"], most=2)
            drawings = {"p": Sheet([MID]), "q": Sheet([MID if seed % 3 else LOW])}
            changes = {"a": CUT if seed % 2 else Change(), "b": Change(kept=[MID])}
            try:
                binder = Binder(drawings, changes, facts)
            except NoStore:
                continue
            for store in stores:
                expected = fits_by_hand(drawings, changes, facts, store)
                self.assertIs(fits(binder, store), expected)
                if set(drawings) <= set(store.starts):
                    borne = sheets_by_runs(store, drawings, changes) is not None
                    self.assertIs(expected, borne and all(holds_by_hand(fact, store) for fact in facts))
                outcomes[expected] += 1
        self.assertGreater(min(outcomes.values()), 200)


if __name__ == "__main__":
    unittest.main()
