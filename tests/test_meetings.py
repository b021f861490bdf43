"""Point 52: runs whose last revisions come in any order."""

import itertools
import unittest

from drawingoffice.answers import judge
from drawingoffice.binders import Binder
from drawingoffice.changes import Change
from drawingoffice.errors import BadRun, UnknownChange, UnknownStart
from drawingoffice.meetings import meeting, parted_orders
from drawingoffice.sheets import Sheet
from small_cards import raised
from small_offices import MID, all_runs
from test_answers import small_binders
from test_stores import BAD_RUNS


def binder_of(*facts):
    return Binder({"main": Sheet([MID])}, {name: Change() for name in "abcd"}, list(facts))


def by_hand(binder, run, names):
    """The answers of both functions, by trying all orders with judge."""
    rows = sorted(itertools.permutations(range(len(names))))
    orders = [run + tuple("+" + names[at] for at in row) for row in rows]
    for order in orders:
        if judge(binder, ("goes", order)) != "sure":
            return None, ("fails", order)
    for order in orders:
        if judge(binder, ("alike", orders[0], order)) != "sure":
            return None, ("apart", orders[0], order)
    return binder.store.end(orders[0]), None


class Meetings(unittest.TestCase):
    def check(self, binder, run, names, content, parted):
        self.assertEqual(meeting(binder, run, names), content)
        self.assertEqual(parted_orders(binder, run, names), parted)
        self.assertEqual(by_hand(binder, run, names), (content, parted))

    def test_no_names(self):
        binder = binder_of(("goes", ("main", "+a")))
        self.check(binder, ("main",), [], 0, None)
        self.check(binder, ("main", "+a"), [], 1, None)
        self.check(binder, ("main", "+b"), [], None, ("fails", ("main", "+b")))

    def test_one_name(self):
        binder = binder_of(("goes", ("main", "+a")))
        self.check(binder, ("main",), ["a"], 1, None)
        self.check(binder, ("main",), ["b"], None, ("fails", ("main", "+b")))

    def test_two_names(self):
        meet = ("alike", ("main", "+a", "+b"), ("main", "+b", "+a"))
        self.check(binder_of(meet), ("main",), ["b", "a"], 3, None)
        binder = binder_of(("goes", meet[1]), ("goes", meet[2]))
        self.check(binder, ("main",), ["b", "a"], None, ("apart", meet[2], meet[1]))
        self.check(binder, ("main",), ("a", "b"), None, ("apart", meet[1], meet[2]))
        binder = binder_of(("goes", ("main", "+a", "+b")))
        self.check(binder, ("main",), ["a", "b"], None, ("fails", ("main", "+b", "+a")))
        self.check(binder, ("main",), ["b", "a"], None, ("fails", ("main", "+b", "+a")))
        self.check(binder_of(), ("main",), ["b", "a"], None, ("fails", ("main", "+b", "+a")))

    def test_four_names(self):
        orders = [("main",) + tuple("+" + name for name in order) for order in itertools.permutations("abcd")]
        facts = [("alike", orders[0], order) for order in orders]
        binder = binder_of(*facts)
        self.check(binder, ("main",), list("cadb"), binder.store.end(orders[7]), None)
        self.assertIsNotNone(binder.store.end(orders[7]))
        names = list("abcd")
        going = [("goes", order) for order in orders]
        self.assertEqual(parted_orders(binder_of(*going), ("main",), names), ("apart", orders[0], orders[1]))
        binder = binder_of(*facts[:3], *going)
        self.assertEqual(parted_orders(binder, ("main",), names), ("apart", orders[0], orders[3]))
        self.assertIsNone(meeting(binder, ("main",), names))
        self.assertEqual(parted_orders(binder_of(*going[:17]), ("main",), names), ("fails", orders[17]))
        self.assertIsNone(meeting(binder_of(*going[:17]), ("main",), names))
        self.assertEqual(names, list("abcd"))

    def test_names_behind_a_run(self):
        binder = binder_of(("alike", ("main", "-c", "+a", "+b"), ("main", "-c", "+b", "+a")))
        self.check(binder, ("main", "-c"), ["a", "b"], binder.store.end(("main", "-c", "+a", "+b")), None)

    def test_held_against_all_orders(self):
        kinds = {None: 0, "fails": 0, "apart": 0}
        for binder in small_binders(120, most=5):
            for run in all_runs(list(binder.drawings), ["a", "b"], 1):
                for names in [[], ["a"], ["b", "a"]]:
                    content, parted = by_hand(binder, run, names)
                    self.check(binder, run, names, content, parted)
                    kinds[parted and parted[0]] += 1
        facts = [("goes", ("main", "+a", "+b")), ("goes", ("main", "+b", "+a"))]
        self.check(binder_of(*facts, ("apart", facts[0][1], facts[1][1])), ("main",), ["a", "b"], None,
                   ("apart", facts[0][1], facts[1][1]))
        self.assertGreater(min(kinds["fails"], kinds[None]), 50)

    def test_errors(self):
        binder = binder_of()
        for action in (meeting, parted_orders):
            for run in BAD_RUNS:
                self.assertEqual(raised(action, binder, run, ["none"]), (BadRun, {"run": run}))
            for run, names, error in [
                (("none", "+none"), ["no"], (UnknownStart, {"name": "none"})),
                (("main", "+a", "-y", "+x"), ["no"], (UnknownChange, {"name": "y"})),
                (("main", "+a"), ["a", "no", "none"], (UnknownChange, {"name": "no"})),
                (("main", "+b"), ["no"], (UnknownChange, {"name": "no"})),
            ]:
                self.assertEqual(raised(action, binder, run, names), error)


if __name__ == "__main__":
    unittest.main()
