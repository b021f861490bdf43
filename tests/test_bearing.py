"""Point 45: stores that bear drawings."""

import itertools
import unittest

from drawingoffice.bearing import sheets_of
from drawingoffice.changes import Change
from drawingoffice.errors import CannotBear, UnknownStart
from drawingoffice.sheets import Sheet
from drawingoffice.stores import Store
from small_cards import raised
from small_offices import LOW, MID, ROOM, all_stores, sheets_by_hand, sheets_by_runs

CUT = Change([MID], [LOW])
CHANGES = {"cut": CUT, "same": Change(), "bad": Change.nowhere()}


def told(sheets):
    """The sheets as lists of limits, with None where there is none."""
    return [None if sheet is None else list(sheet) for sheet in sheets]


class Bearing(unittest.TestCase):
    def check(self, store, drawings, expected, changes=CHANGES):
        drawings = {name: Sheet(limits) for name, limits in drawings.items()}
        if expected is None:
            self.assertEqual(raised(sheets_of, store, drawings, changes), (CannotBear, {}))
        else:
            sheets = sheets_of(store, drawings, changes)
            self.assertEqual(told(sheets), expected)
            self.assertEqual({sheet.__class__ for sheet in sheets} - {None.__class__, Sheet}, set())

    def test_sheets_behind_moves(self):
        store = Store(3, {"main": 1}, [(1, "cut", 0), (0, "same", 2)])
        self.check(store, {"main": [MID, ROOM]}, [[LOW, ROOM], [MID, ROOM], [LOW, ROOM]])
        self.check(store, {"main": [MID, LOW]}, None)
        self.check(store, {"main": []}, None)
        self.check(Store(2, {"main": 1}, [(0, "cut", 1)]), {"main": [LOW]}, [[MID], [LOW]])
        self.check(Store(2, {"main": 1}, [(0, "cut", 1)]), {"main": [MID]}, None)

    def test_contents_that_no_run_leads_to(self):
        store = Store(4, {"main": 1, "q": 3}, [(1, "cut", 0), (2, "bad", 2), (3, "none", 2)])
        self.check(store, {"main": [MID]}, [[LOW], [MID], None, None])
        self.check(store, {}, [None] * 4)
        self.check(store, {"q": []}, None)
        self.check(Store(0, {}, []), {}, [])

    def test_drawings_that_share_a_content(self):
        store = Store(2, {"a": 0, "b": 0, "c": 1}, [(0, "cut", 1)])
        self.check(store, {"a": [MID], "b": [MID]}, [[MID], [LOW]])
        self.check(store, {"a": [MID], "b": [MID, ROOM]}, None)
        self.check(store, {"a": [MID], "c": [LOW]}, [[MID], [LOW]])
        self.check(store, {"a": [MID], "c": [LOW, ROOM]}, None)
        self.check(store, {"c": [LOW], "b": [MID]}, [[MID], [LOW]])

    def test_moves_without_a_change_and_void_ones(self):
        for name in ("bad", "none"):
            for move in [(0, name, 1), (1, name, 0), (0, name, 0)]:
                self.check(Store(2, {"main": 0}, [move]), {"main": []}, None)

    def test_circles(self):
        self.check(Store(1, {"main": 0}, [(0, "same", 0)]), {"main": [MID]}, [[MID]])
        self.check(Store(1, {"main": 0}, [(0, "cut", 0)]), {"main": [MID]}, None)
        self.check(Store(2, {"main": 0}, [(0, "cut", 1), (1, "same", 0)]), {"main": [MID]}, None)
        back = {"cut": CUT, "back": -CUT}
        self.check(Store(2, {"main": 0}, [(0, "cut", 1), (1, "back", 0)]), {"main": [MID]}, [[MID], [LOW]], back)

    def test_unknown_starts_come_first(self):
        store = Store(1, {"main": 0}, [(0, "bad", 0)])
        drawings = {"z": Sheet([]), "main": Sheet([]), "b": Sheet([])}
        self.assertEqual(raised(sheets_of, store, drawings, CHANGES), (UnknownStart, {"name": "b"}))

    def test_held_against_all_runs(self):
        outcomes = set()
        stores = all_stores(2, ["p", "q"], ["a", "b"]) + all_stores(3, ["p"], ["a"])
        kinds = [CUT, Change(), Change(kept=[LOW]), Change.nowhere()]
        tables = [dict(zip("ab", pair)) for pair in itertools.product(kinds, repeat=2)] + [{"a": CUT}]
        for drawings in [{}, {"p": Sheet([MID])}, {"p": Sheet([MID]), "q": Sheet([MID])},
                         {"q": Sheet([LOW]), "p": Sheet([MID])}]:
            for store, changes in itertools.product(stores, tables):
                if not set(drawings) <= set(store.starts):
                    continue
                expected = sheets_by_runs(store, drawings, changes)
                self.assertEqual(sheets_by_hand(store, drawings, changes), expected)
                outcomes.add(expected is None)
                if expected is None:
                    self.assertEqual(raised(sheets_of, store, drawings, changes), (CannotBear, {}))
                else:
                    limits = [None if some is None else sorted(some) for some in expected]
                    self.assertEqual(told(sheets_of(store, drawings, changes)), limits)
        self.assertEqual(outcomes, {True, False})

    def test_arguments_stay(self):
        store, drawings, changes = Store(1, {"main": 0, "a": 0}, []), {"main": Sheet([]), "a": Sheet([])}, {"z": CUT}
        sheets_of(store, drawings, changes).clear()
        self.assertEqual((list(drawings), list(changes)), (["main", "a"], ["z"]))
        self.assertEqual(len(sheets_of(store, drawings, changes)), 1)


if __name__ == "__main__":
    unittest.main()
