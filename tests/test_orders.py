"""Points 40 and 41: orders of changes."""

import itertools
import random
import unittest

from drawingoffice.changes import Change
from drawingoffice.errors import NoOrder
from drawingoffice.orders import always_before, clash, first_order, freest, order_count, orders_that_go
from drawingoffice.orders import sheet_after_all
from drawingoffice.sheets import Sheet
from small_cards import raised
from small_offices import LIMITS, LISTS, LOW, MID, ROOM, after_by_hand, all_sheets, change_with, sublists

VOID = Change.nowhere()


def left_by(sheet, changes, order):
    """The set of limits that the changes leave one after the other, or None."""
    left = set(sheet)
    for name in order:
        left = left if left is None else after_by_hand(changes[name], left)
    return left


def orders_by_hand(sheet, changes, names):
    """All orders that go, by trying all orders, in ascending order of the indexes."""
    rows = sorted(itertools.permutations(range(len(names))))
    orders = [[names[at] for at in row] for row in rows]
    return [order for order in orders if left_by(sheet, changes, order) is not None]


def all_go(sheet, changes, names):
    return all(left_by(sheet, changes, order) is not None for order in itertools.permutations(names))


def freest_by_hand(sheet, changes, names):
    free = [some for some in sublists(list(range(len(names)))) if all_go(sheet, changes, [names[at] for at in some])]
    longest = max(len(some) for some in free)
    return [names[at] for at in min(some for some in free if len(some) == longest)]


def samples():
    """Sheets, dicts of changes and lists of names; the names do not ascend and the dict has further ones."""
    chance = random.Random(40)
    found = []
    for size in [0, 1, 2, 3, 4, 4, 5] * 25:
        names = chance.sample(["e", "b", "d", "a", "c"], size)
        changes = {}
        for name in names + ["z"]:
            words = [None, None, None, None] + LISTS
            changes[name] = VOID if chance.random() < 0.03 else change_with({l: chance.choice(words) for l in LIMITS})
        found.append((chance.choice(all_sheets(LIMITS)), changes, names))
    return found


class Orders(unittest.TestCase):
    def test_held_against_all_orders(self):
        counts = set()
        for sheet, changes, names in samples():
            orders = orders_by_hand(sheet, changes, names)
            counts.add(len(orders))
            self.assertEqual(list(orders_that_go(sheet, changes, names)), orders)
            self.assertEqual(order_count(sheet, changes, names), len(orders))
            self.assertEqual(first_order(sheet, changes, names), orders[0] if orders else None)
            after = sheet_after_all(sheet, changes, names)
            if not orders:
                self.assertIsNone(after)
                self.assertEqual(raised(always_before, sheet, changes, names), (NoOrder, {}))
                continue
            for order in orders:
                self.assertEqual(list(after), sorted(left_by(sheet, changes, order)))
            pairs = [(p, q) for p in names for q in names if p != q
                     and all(order.index(p) < order.index(q) for order in orders)]
            self.assertEqual(always_before(sheet, changes, names), pairs)
        self.assertGreater(len(counts), 6)

    def test_no_names(self):
        sheet = Sheet([MID])
        self.assertEqual(list(orders_that_go(sheet, {}, [])), [[]])
        self.assertEqual(order_count(sheet, {"a": VOID}, ()), 1)
        self.assertEqual(first_order(sheet, {}, []), [])
        self.assertTrue(sheet_after_all(sheet, {}, []) == sheet)
        self.assertEqual(always_before(sheet, {}, []), [])
        self.assertIsNone(clash(sheet, {}, []))
        self.assertEqual(freest(sheet, {}, []), [])

    def test_six_names(self):
        names = list("fbdace")
        free = {name: Change() for name in names}
        self.assertEqual(order_count(Sheet([]), free, names), 720)
        orders = list(orders_that_go(Sheet([]), free, names))
        self.assertEqual((orders[0], orders[1], orders[-1]), (names, list("fbdaec"), names[::-1]))
        self.assertEqual((clash(Sheet([]), free, names), freest(Sheet([]), free, names)), (None, names))
        limits = [("reach", "p", "q", (number, ())) for number in range(7)]
        chain = {name: Change([limits[at]], [limits[at + 1]]) for at, name in enumerate(sorted(names))}
        self.assertEqual(list(orders_that_go(Sheet(limits[:1]), chain, names)), [sorted(names)])
        self.assertTrue(sheet_after_all(Sheet(limits[:1]), chain, names) == Sheet(limits[6:]))
        befores = always_before(Sheet(limits[:1]), chain, names)
        self.assertEqual(befores, [(p, q) for p in names for q in names if p < q])
        self.assertEqual(freest(Sheet(limits[:1]), chain, names), ["a"])

    def test_the_generator_stops_early_and_yields_new_lists(self):
        names = ["b", "a"]
        changes = {name: Change() for name in names}
        steps = orders_that_go(Sheet([]), changes, names)
        first = next(steps)
        first.append("c")
        self.assertEqual(next(steps), ["a", "b"])
        self.assertEqual(names, ["b", "a"])

    def test_names_in_a_tuple(self):
        changes = {"a": Change([MID]), "b": Change(kept=[MID])}
        sheet = Sheet([MID])
        self.assertEqual(list(orders_that_go(sheet, changes, ("a", "b"))), [["b", "a"]])
        self.assertEqual(always_before(sheet, changes, ("a", "b")), [("b", "a")])
        self.assertEqual(freest(sheet, changes, ("a", "b")), ["a"])


class Clashes(unittest.TestCase):
    def test_held_against_all_orders(self):
        kinds = set()
        for sheet, changes, names in samples():
            told = clash(sheet, changes, names)
            self.assertEqual(told is None, all_go(sheet, changes, names))
            self.assertEqual(freest(sheet, changes, names), freest_by_hand(sheet, changes, names))
            kinds.add(told and told[0])
            alone = [name for name in names if left_by(sheet, changes, [name]) is None]
            if alone:
                self.assertEqual(told[:2], ("alone", alone[0]))
                wrong = [limit for limit in changes[alone[0]].touched
                         if (limit in sheet) != (limit in changes[alone[0]].lost + changes[alone[0]].kept)]
                self.assertEqual(told[2], wrong[0] if wrong else None)
            elif told is not None:
                pairs = []
                for first, second in itertools.permutations(names, 2):
                    moved = set(changes[first].lost + changes[first].gained) & set(changes[second].touched)
                    pairs += [("pair", first, second, limit) for limit in sorted(moved)]
                self.assertEqual(told, pairs[0])
        self.assertEqual(kinds, {None, "alone", "pair"})

    def test_the_first_of_a_pair_may_have_the_greater_index(self):
        changes = {"a": Change(kept=[MID, ROOM]), "b": Change([ROOM, MID])}
        self.assertEqual(clash(Sheet([MID, ROOM]), changes, ["a", "b"]), ("pair", "b", "a", MID))
        changes = {"a": Change(kept=[MID]), "b": Change([MID]), "c": Change([MID])}
        self.assertEqual(clash(Sheet([MID]), changes, ["a", "b", "c"]), ("pair", "b", "a", MID))

    def test_alone_comes_first(self):
        changes = {"a": Change([MID]), "b": Change([MID]), "c": VOID, "d": Change([LOW])}
        sheet = Sheet([MID])
        self.assertEqual(clash(sheet, changes, ["a", "b", "c", "d"]), ("alone", "c", None))
        self.assertEqual(clash(sheet, changes, ["a", "b", "d", "c"]), ("alone", "d", LOW))
        self.assertEqual(clash(sheet, changes, ["b", "a"]), ("pair", "b", "a", MID))

    def test_the_freest_list_can_be_empty(self):
        changes = {"a": VOID, "b": Change([LOW])}
        self.assertEqual(freest(Sheet([MID]), changes, ["a", "b"]), [])

    def test_the_freest_list_whose_indexes_come_first(self):
        changes = {"a": Change([MID]), "b": Change([MID]), "c": Change(kept=[ROOM]), "d": Change(kept=[ROOM])}
        sheet = Sheet([MID, ROOM])
        self.assertEqual(freest(sheet, changes, ["d", "b", "c", "a"]), ["d", "b", "c"])
        self.assertEqual(freest(sheet, changes, ["b", "a"]), ["b"])

    def test_arguments_stay(self):
        changes = {"a": Change([MID]), "b": Change(kept=[MID])}
        names = ["a", "b"]
        for action in (clash, freest, always_before, first_order, order_count, sheet_after_all):
            action(Sheet([MID]), changes, names)
        self.assertEqual((names, list(changes)), (["a", "b"], ["a", "b"]))


if __name__ == "__main__":
    unittest.main()
