"""Points 37 to 39: changes."""

import itertools
import unittest

from drawingoffice.changes import Change, change_of
from drawingoffice.errors import BadChange, BadLimit, DoesNotGo, UnknownChange
from drawingoffice.sheets import Sheet
from small_cards import raised
from small_offices import LIMITS, LISTS, LOW, MID, ROOM, after_by_hand, all_changes, all_sheets, change_with, described

VOID = Change.nowhere()
PAIR = [LOW, MID]


class Making(unittest.TestCase):
    def test_properties(self):
        lists = [[("reach", "p", "q", (number, ())) for number in (at + 3, at, at + 6)] for at in range(3)]
        change = Change(lists[0], lists[1], kept=lists[2], barred=[ROOM, ROOM])
        self.assertEqual(change.lost, sorted(lists[0]))
        self.assertEqual(change.gained, sorted(lists[1]))
        self.assertEqual(change.kept, sorted(lists[2]))
        self.assertEqual(change.barred, [ROOM])
        self.assertEqual(change.touched, sorted(lists[0] + lists[1] + lists[2]) + [ROOM])
        self.assertIs(change.is_void, False)

    def test_no_limits_and_void(self):
        self.assertEqual(described(Change()), ([], [], [], [], [], False))
        self.assertEqual(described(VOID), ([], [], [], [], [], True))

    def test_limits_that_are_passed_twice(self):
        self.assertEqual(Change([MID, LOW, MID]).lost, [LOW, MID])
        self.assertEqual(Change((), (MID, MID)).gained, [MID])
        for first, second in itertools.combinations(LISTS[1:], 2):
            lists = {word: [] for word in LISTS[1:]}
            lists[first] = [ROOM, MID]
            lists[second] = [LOW, MID, ("none",)]
            self.assertEqual(raised(self.made, lists), (BadChange, {"limit": MID}))

    def made(self, lists):
        return Change(lists["lost"], lists["gained"], kept=lists["kept"], barred=lists["barred"])

    def test_the_first_fault_raises_its_error(self):
        bad, worse = ("reach", "p", "p", (0, ())), ()
        for lists, error in [
            (dict(lost=[MID, bad], gained=[worse, MID], kept=[], barred=[]), (BadLimit, {"limit": bad})),
            (dict(lost=[MID], gained=[LOW, MID, worse], kept=[bad], barred=[]), (BadChange, {"limit": MID})),
            (dict(lost=[MID], gained=[worse, MID], kept=[bad], barred=[]), (BadLimit, {"limit": worse})),
            (dict(lost=[], gained=[], kept=[LOW], barred=[MID, LOW, bad]), (BadChange, {"limit": LOW})),
            (dict(lost=[], gained=[], kept=[("walk", [])], barred=[bad]), (BadLimit, {"limit": ("walk", [])})),
            (dict(lost=[LOW], gained=[], kept=[MID, LOW], barred=[MID]), (BadChange, {"limit": LOW})),
        ]:
            self.assertEqual(raised(self.made, lists), error)

    def test_copies(self):
        lost, kept = [MID], [ROOM]
        change = Change(lost, kept=kept)
        lost.append(LOW)
        kept.clear()
        self.assertEqual((change.lost, change.kept), ([MID], [ROOM]))
        for told in (change.lost, change.gained, change.kept, change.barred, change.touched):
            told.append(LOW)
        self.assertEqual(described(change), ([MID], [], [ROOM], [], [MID, ROOM], False))

    def test_kept_and_barred_are_passed_by_keyword(self):
        self.assertRaises(TypeError, Change, [], [], [MID])


class Going(unittest.TestCase):
    def test_held_against_the_limits_looked_at_one_by_one(self):
        goes = 0
        for change in all_changes(LIMITS):
            for sheet in all_sheets(LIMITS):
                left = after_by_hand(change, set(sheet))
                self.assertIs(sheet in change, left is not None)
                before = list(sheet)
                if left is not None:
                    goes += 1
                    self.assertEqual(list(change(sheet)), sorted(left))
                elif change.is_void:
                    self.assertEqual(raised(change, sheet), (DoesNotGo, {"limit": None}))
                else:
                    wrong = [limit for limit in sorted(LIMITS) if limit in change.touched
                             and (limit in sheet) != (limit in change.lost + change.kept)]
                    self.assertEqual(raised(change, sheet), (DoesNotGo, {"limit": wrong[0]}))
                self.assertEqual(list(sheet), before)
        self.assertEqual(goes, 216)

    def test_other_limits_stay(self):
        change = Change([MID], [LOW])
        self.assertEqual(list(change(Sheet([MID, ROOM]))), [LOW, ROOM])
        self.assertTrue(Change()(Sheet([ROOM])) == Sheet([ROOM]))

    def test_the_least_wrong_limit(self):
        self.assertEqual(raised(Change([ROOM], barred=[MID]), Sheet([MID])), (DoesNotGo, {"limit": MID}))
        self.assertEqual(raised(Change([LOW], barred=[MID]), Sheet([MID])), (DoesNotGo, {"limit": LOW}))
        self.assertEqual(raised(Change([ROOM, MID]), Sheet([MID])), (DoesNotGo, {"limit": ROOM}))
        self.assertEqual(raised(VOID, Sheet([])), (DoesNotGo, {"limit": None}))


class Sums(unittest.TestCase):
    def setUp(self):
        self.sheets = all_sheets(PAIR)
        self.changes = all_changes(PAIR)
        self.tables = [self.table(change) for change in self.changes]

    def table(self, change):
        """For each small sheet what the change leaves of it."""
        return [after_by_hand(change, set(sheet)) for sheet in self.sheets]

    def test_followed_by(self):
        for p, before in zip(self.changes, self.tables):
            for q in self.changes:
                both = p + q
                expected = [None if left is None else after_by_hand(q, left) for left in before]
                self.assertEqual(self.table(both), expected)
                self.assertIs(both.is_void, all(left is None for left in expected))

    def test_touched_limits_of_a_sum(self):
        for p in self.changes:
            for q in self.changes:
                both = p + q
                if not both.is_void:
                    self.assertEqual(both.touched, sorted(set(p.touched + q.touched)))

    def test_a_limit_that_both_touch(self):
        before = {"lost": True, "gained": False, "kept": True, "barred": False}
        after = {"lost": False, "gained": True, "kept": True, "barred": False}
        words = {(before[word], after[word]): word for word in before}
        for first in before:
            for second in before:
                both = change_with({MID: first, LOW: None}) + change_with({MID: second, LOW: "kept"})
                if after[first] != before[second]:
                    self.assertEqual(described(both), described(VOID))
                else:
                    word = words[before[first], after[second]]
                    self.assertEqual(described(both), described(change_with({MID: word, LOW: "kept"})))

    def test_void_sums(self):
        for change in self.changes:
            for both in (change + VOID, VOID + change):
                self.assertEqual(described(both), described(VOID))

    def test_taken_back(self):
        for change in self.changes:
            back = -change
            self.assertEqual((back.lost, back.gained, back.kept, back.barred, back.is_void),
                             (change.gained, change.lost, change.kept, change.barred, change.is_void))
            self.assertTrue(-back == change)
            for sheet in self.sheets:
                if sheet in change:
                    self.assertTrue(back(change(sheet)) == sheet)

    def test_at_most(self):
        for p, left in zip(self.changes, self.tables):
            for q, right in zip(self.changes, self.tables):
                self.assertIs(p <= q, all(one is None or one == two for one, two in zip(left, right)))

    def test_equal(self):
        for p, left in zip(self.changes, self.tables):
            for q, right in zip(self.changes, self.tables):
                self.assertIs(p == q, left == right)

    def test_void_on_each_side(self):
        some = Change([MID])
        self.assertEqual([VOID <= some, some <= VOID, VOID <= VOID], [True, False, True])
        self.assertEqual([VOID == some, some == VOID, VOID == Change.nowhere(), VOID == Change()],
                         [False, False, True, False])
        self.assertEqual([(VOID + some).is_void, (some + VOID).is_void, (-VOID).is_void], [True, True, True])

    def test_equal_to_nothing_else(self):
        for other in [None, 0, [], Sheet([])]:
            self.assertIs(Change() == other, False)

    def test_operands_stay(self):
        p, q = Change([MID], kept=[ROOM]), Change([ROOM], [MID])
        told = described(p), described(q)
        p + q, -p, p <= q, p == q
        self.assertEqual((described(p), described(q)), told)


class ChangeOf(unittest.TestCase):
    def setUp(self):
        self.changes = {"cut": Change([MID], [LOW]), "fix": Change([LOW], kept=[ROOM]), "bad": VOID}

    def test_steps(self):
        self.assertEqual(described(change_of(self.changes, [])), described(Change()))
        self.assertTrue(change_of(self.changes, ["+cut"]) == self.changes["cut"])
        self.assertTrue(change_of(self.changes, ("-cut",)) == Change([LOW], [MID]))
        self.assertTrue(change_of(self.changes, ["+cut", "+fix"]) == Change([MID], barred=[LOW], kept=[ROOM]))
        self.assertTrue(change_of(self.changes, ["-cut", "+cut"]) == Change(kept=[LOW], barred=[MID]))
        self.assertTrue(change_of(self.changes, ["+cut", "+cut"]).is_void)
        self.assertTrue(change_of(self.changes, ["-bad"]).is_void)
        self.assertEqual(described(change_of({}, [])), described(Change()))

    def test_unknown_changes(self):
        for steps, name in [(["+none"], "none"), (["+cut", "-no", "+none"], "no"), (["+cut", "+cut", "-none"], "none"),
                            (["+bad", "+zz"], "zz"), (["+zz", "+bad"], "zz")]:
            self.assertEqual(raised(change_of, self.changes, steps), (UnknownChange, {"name": name}))

    def test_held_against_the_steps_one_after_the_other(self):
        steps = [sign + name for name in self.changes for sign in "+-"]
        for size in range(4):
            for run in itertools.product(steps, repeat=size):
                made = change_of(self.changes, list(run))
                for sheet in all_sheets(LIMITS):
                    left = set(sheet)
                    for step in run:
                        change = self.changes[step[1:]]
                        left = left if left is None else after_by_hand(change if step[0] == "+" else -change, left)
                    self.assertEqual(after_by_hand(made, set(sheet)), left)

    def test_arguments_stay(self):
        steps = ["+cut", "-cut"]
        change_of(self.changes, steps)
        self.assertEqual((steps, list(self.changes)), (["+cut", "-cut"], ["cut", "fix", "bad"]))


if __name__ == "__main__":
    unittest.main()
