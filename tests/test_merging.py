"""Point 73: definitions that make revisions in any order."""

import itertools
import re
import unittest

from drawingoffice.clearing import cleared, releasable
from drawingoffice.merging import merge_definitions
from drawingoffice.programs import Program
from drawingoffice.rules import Rules
from small_shops import cube_office

NAMES = ["b", "a", "release", "m1"]


def runs_of(definitions, name="merge"):
    """All runs of definitions without parameters whose events all lead on, as lists of events, and how they end."""
    bodies = {one: body for one, params, body in definitions}

    def runs(body):
        if body[0] == "stop":
            return [[]]
        if body[0] == "do":
            return [[body[1]] + rest for rest in runs(body[2])]
        if body[0] == "choose":
            return [run for inner in body[1] for run in runs(inner)]
        assert body[0] == "call" and body[2] == ()
        return runs(bodies[body[1]])

    return runs(bodies[name])


class Merging(unittest.TestCase):
    def test_the_runs(self):
        for size in range(5):
            names = NAMES[:size]
            expected = [["+" + name for name in order] + ["release"] for order in itertools.permutations(names)]
            self.assertEqual(sorted(runs_of(merge_definitions(names))), sorted(expected))

    def test_the_definitions(self):
        for size in range(5):
            definitions = merge_definitions(NAMES[:size])
            program = Program(definitions)
            self.assertIsInstance(definitions, list)
            self.assertLessEqual(len(definitions), 20)
            self.assertEqual((definitions[0][0], [params for _, params, _ in definitions]),
                             ("merge", [()] * len(definitions)))
            for name in program.names[1:]:
                self.assertRegex(name, "^m[0-9]+$")
            for _, _, body in definitions:
                self.assertTrue(body[0] != "choose" or 1 <= len(body[1]) <= 6)
        self.assertEqual(merge_definitions([]), [("merge", (), ("do", "release", ("stop",)))])
        self.assertEqual(merge_definitions(("a", "b")), merge_definitions(["a", "b"]))

    def test_each_call_gives_a_new_list(self):
        names = ["a", "b"]
        merge_definitions(names).clear()
        self.assertEqual((len(runs_of(merge_definitions(names))), names), (2, ["a", "b"]))

    def test_where_the_orders_meet(self):
        once = Rules(["release"], [[1], [1]], [(1, "release")])
        for size in range(5):
            names = ["a", "b", "c", "d"][:size]
            office = cube_office(names, merge_definitions(names), rules=once)
            self.assertEqual(office.binder.store.contents, 2 ** size)
            self.assertTrue(cleared(office, "merge", "main"))
            self.assertEqual(releasable(office, "merge", "main"),
                             [(office.binder.store.end(("main", *["+" + name for name in names])), 0)])


if __name__ == "__main__":
    unittest.main()
