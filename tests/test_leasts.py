"""Point 51: the least binder."""

import unittest

from drawingoffice.answers import judge
from drawingoffice.binders import Binder
from drawingoffice.changes import Change
from drawingoffice.leasts import least
from drawingoffice.sheets import Sheet
from small_offices import LOW, MID, all_runs, fold_by_hand, holds_by_hand, sheets_by_hand
from test_answers import small_binders
from test_facts import all_facts

CHANGES = {"a": Change(), "b": Change(), "cut": Change([MID], [LOW])}


def kept_by_hand(binder):
    """The fails facts and apart facts that are kept, in order."""
    facts = binder.facts
    nets = {}
    for at, fact in enumerate(facts):
        if fact[0] in ("fails", "apart"):
            contrary = ({"fails": "goes", "apart": "alike"}[fact[0]],) + fact[1:]
            net, _ = fold_by_hand(list(binder.drawings), facts + [contrary])
            if sheets_by_hand(net, binder.drawings, binder.changes) is not None:
                nets[at] = net
    follows = {(one, two) for one in nets for two in nets if one != two and not holds_by_hand(facts[two], nets[one])}
    return [facts[one] for one in nets
            if all((two, one) in follows and two > one for other, two in follows if other == one)]


def least_by_hand(binder):
    """The facts of point 51, by its words."""
    store, runs = fold_by_hand(list(binder.drawings), binder.facts)
    kept = kept_by_hand(binder)
    aparts = []
    for fact in kept:
        if fact[0] == "apart":
            low, high = sorted(store.end(run) for run in fact[1:])
            aparts.append(("apart", runs[low], runs[high]))
    found = []
    for content, run in enumerate(runs):
        touching = [move for move in store.moves if content in (move[0], move[2])]
        ends = [run for fact in aparts for run in fact[1:]]
        if content not in store.starts.values() and len(touching) == 1 and run not in ends:
            found.append(("goes", run))
    for name, content in store.starts.items():
        first = min(other for other in store.starts if store.starts[other] == content)
        if name != first:
            found.append(("alike", (first,), (name,)))
    numbering = set()
    for content, run in enumerate(runs):
        if len(run) > 1:
            before = runs.index(run[:-1])
            ends = (before, content) if run[-1][0] == "+" else (content, before)
            numbering.add((ends[0], run[-1][1:], ends[1]))
    for source, name, target in store.moves:
        if (source, name, target) not in numbering:
            found.append(("alike", runs[source] + ("+" + name,), runs[target]))
    return found + [fact for fact in kept if fact[0] == "fails"] + aparts


class Least(unittest.TestCase):
    def check(self, facts, expected, drawings=("main", "q")):
        binder = Binder({name: Sheet([MID]) for name in drawings}, CHANGES, facts)
        self.assertEqual(least_by_hand(binder), expected)
        told = least(binder)
        self.assertEqual(told.facts, expected)
        self.assertEqual(binder.facts, facts)
        self.assertEqual(([list(sheet) for sheet in told.drawings.values()], list(told.drawings)),
                         ([[MID]] * len(drawings), sorted(drawings)))
        self.assertEqual(list(told.changes), ["a", "b", "cut"])

    def test_no_facts(self):
        self.check([], [])
        self.check([], [], drawings=())
        self.check([("goes", ("main",))], [])

    def test_goes_facts(self):
        a, ab, ba = ("main", "+a"), ("main", "+a", "+b"), ("main", "-b", "+a")
        self.check([("goes", a), ("goes", ab), ("goes", ab + ("-b", "-a"))], [("goes", ab)])
        self.check([("goes", ba), ("goes", ab)], [("goes", ab), ("goes", ba)])
        self.check([("goes", ("q", "+a")), ("goes", a)], [("goes", a), ("goes", ("q", "+a"))])

    def test_alike_facts(self):
        self.check([("alike", ("q",), ("main",))], [("alike", ("main",), ("q",))])
        starts = ["z", "main", "q"]
        self.check([("alike", ("q",), ("z",)), ("alike", ("main",), ("q",))],
                   [("alike", ("main",), ("q",)), ("alike", ("main",), ("z",))], starts)
        self.check([("alike", ("main", "+b", "+a"), ("main", "+a", "+b"))],
                   [("alike", ("main", "+b", "+a"), ("main", "+a", "+b"))])
        self.check([("alike", ("main", "+a"), ("main",))], [("alike", ("main", "+a"), ("main",))])
        self.check([("alike", ("main", "-a"), ("q",))], [("alike", ("q", "+a"), ("main",))])

    def test_equal_facts_and_facts_that_follow_from_each_other(self):
        fails = ("fails", ("main", "+a"))
        self.check([fails, fails], [fails])
        longer = ("fails", ("main", "+a", "+a"))
        self.check([longer, fails], [fails])
        self.check([fails, longer], [fails])
        self.check([("alike", ("main",), ("q",)), ("fails", ("q", "+a")), fails],
                   [("alike", ("main",), ("q",)), ("fails", ("q", "+a"))])

    def test_a_fact_that_the_drawings_say(self):
        self.check([("fails", ("main", "-cut")), ("fails", ("main", "+cut", "+cut"))], [])
        self.check([("apart", ("main", "+cut"), ("main",))], [("goes", ("main", "+cut"))])

    def test_apart_facts(self):
        a, b, qa = ("main", "+a"), ("main", "+b"), ("q", "+a")
        self.check([("apart", a, b)], [("apart", a, b)])
        self.check([("apart", b, a)], [("apart", a, b)])
        self.check([("apart", b, a), ("apart", a, b)], [("apart", a, b)])
        self.check([("apart", qa, a)], [("apart", a, qa)])
        # What is merged with the starts of both runs merges their ends, too.
        self.check([("apart", qa, a), ("apart", ("main",), ("q",))], [("apart", a, qa)])
        self.check([("apart", ("main",), ("q",)), ("goes", a), ("goes", qa), ("apart", qa, a)],
                   [("goes", a), ("goes", qa), ("apart", ("main",), ("q",))])
        self.check([("apart", ("main", "+a", "-a"), ("q",))], [("goes", a), ("apart", ("main",), ("q",))])

    def test_held_against_the_words_of_the_point(self):
        sizes = set()
        for binder in small_binders(500, most=7):
            expected = least_by_hand(binder)
            self.assertEqual(least(binder).facts, expected)
            sizes.add((len(binder), len(expected)))
        self.assertGreater(len(sizes), 15)

    def test_held_against_judge(self):
        dropped = 0
        for binder in small_binders(240, most=6):
            told = least(binder)
            dropped += len(binder) - len(told)
            for fact in binder.facts:
                self.assertEqual(judge(told, fact), "sure")
            for fact in told.facts:
                self.assertEqual(judge(binder, fact), "sure")
            for fact in all_facts(all_runs(list(binder.drawings), ["a", "b"], 1))[::6]:
                self.assertEqual(judge(told, fact), judge(binder, fact))
            for at, fact in enumerate(told.facts):
                others = Binder(told.drawings, told.changes, told.facts[:at] + told.facts[at + 1:])
                self.assertNotEqual(judge(others, fact), "sure", (binder.facts, told.facts, fact))
            self.assertEqual(least(told).facts, told.facts)
        self.assertGreater(dropped, 10)


if __name__ == "__main__":
    unittest.main()
