"""Point 36: sheets."""

import unittest

from drawingoffice.errors import BadLimit
from drawingoffice.sheets import Sheet
from small_cards import raised
from small_offices import LIMITS, LOW, MID, ROOM, all_sheets, sublists


class Sheets(unittest.TestCase):
    def test_limits_ascend_and_count_once(self):
        limits = [
            ("reach", "frame", "p", (1, ())), ("reach", "p", "frame", (-2, ())), ("reach", "p", "frame", (1, ())),
            ("reach", "p", "frame", (1, (("m", 1),))), ("reach", "p", "frame", (1, (("m", 1), ("n", 1)))),
            ("reach", "p", "q", (0, ())), ("room", "p", "frame", "", (9, ())), ("room", "p", "frame", "B", (9, ())),
            ("room", "p", "frame", "a", (9, ())), ("room", "p", "frame", "aa", (0, ())),
            ("room", "p", "frame", "b", (0, ())),
        ]
        sheet = Sheet(limits[::-1] + limits[2:5])
        self.assertEqual(list(sheet), limits)
        self.assertEqual(len(sheet), len(limits))

    def test_empty(self):
        self.assertEqual((list(Sheet([])), len(Sheet(()))), ([], 0))
        self.assertTrue(Sheet([]) == Sheet(()))

    def test_bad_limits(self):
        for bad in [(), ("room",), ("reach", "p", "p", (1, ())), ("walk", [])]:
            self.assertEqual(raised(Sheet, [MID, bad, ("none",)]), (BadLimit, {"limit": bad}))
        self.assertEqual(raised(Sheet, [("b",), ("a",)]), (BadLimit, {"limit": ("b",)}))

    def test_in(self):
        sheet = Sheet([MID, ROOM])
        for value, expected in [(MID, True), (ROOM, True), (LOW, False), ((), False), (("room",), False),
                                (("walk", [], {}), False), (("reach", {}), False)]:
            self.assertIs(value in sheet, expected)

    def test_operators_held_against_sets(self):
        rows = [(sheet, set(some)) for sheet, some in zip(all_sheets(LIMITS), sublists(LIMITS))]
        for a, one in rows:
            self.assertEqual(list(a), sorted(one))
            self.assertEqual([limit in a for limit in LIMITS], [limit in one for limit in LIMITS])
            for b, two in rows:
                self.assertEqual(list(a | b), sorted(one | two))
                self.assertEqual(list(a & b), sorted(one & two))
                self.assertEqual(list(a - b), sorted(one - two))
                self.assertIs(a <= b, one <= two)
                self.assertIs(a == b, one == two)
                self.assertEqual((list(a), list(b)), (sorted(one), sorted(two)))
                made = (a | b) - (a & b)
                self.assertEqual((len(made), [limit in made for limit in LIMITS]),
                                 (len(one ^ two), [limit in one ^ two for limit in LIMITS]))
                self.assertTrue(made == Sheet(list(one ^ two)))

    def test_equal_to_nothing_else(self):
        for other in [[MID], (MID,), {MID}, None, 0, "sheet"]:
            self.assertIs(Sheet([MID]) == other, False)
        self.assertIs(Sheet([]) == [], False)

    def test_copies(self):
        limits = [MID]
        sheet = Sheet(limits)
        limits.append(ROOM)
        self.assertEqual(list(sheet), [MID])
        self.assertEqual(limits, [MID, ROOM])
        told = list(sheet)
        told.clear()
        self.assertEqual(list(sheet), [MID])


if __name__ == "__main__":
    unittest.main()
