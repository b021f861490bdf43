"""Point 68: definitions that are alike, and what parts those that are not."""

import itertools
import random
import re
import unittest

from drawingoffice.errors import BadLimit, KindMismatch, UnknownEvent, UnknownName, UnknownState
from drawingoffice.likeness import alike, part
from drawingoffice.programs import Program
from drawingoffice.tables import table
from small_cards import raised
from small_programs import RELEASE, STOP, random_joint, random_program
from test_tables import FX, X, call, line, make

SIGN = ("do", "sign", STOP)


def counts_of(program, name):
    return tuple(count for _, count in program[name][1])


def facts_of(facts, name):
    return [fact[1:] for fact in facts if fact[0] == name]


def bodies_of(body):
    """The body and all bodies in it."""
    inner = body[1] if body[0] == "choose" else [body[2]] if body[0] in ("do", "when") else []
    return [body] + [other for one in inner for other in bodies_of(one)]


class Likeness(unittest.TestCase):
    def check(self, program, joint, first, second):
        """alike and part held against the table, and part against further definitions that call the two."""
        told = table(program, joint)
        expected = facts_of(told, first) == facts_of(told, second)
        self.assertIs(alike(program, joint, first, second), expected)
        parted = part(program, joint, first, second)
        if expected:
            self.assertIsNone(parted)
            return None
        state, args, name = parted
        self.assertIn(name, (first, second))
        self.check_closures(program, args, counts_of(program, first))
        more = program.extended([("zone", (), ("call", first, args)), ("ztwo", (), ("call", second, args))])
        further = table(more, joint)
        going = [one for one, other in [(first, "zone"), (second, "ztwo")] if (other, state, ()) in further]
        self.assertEqual(going, [name])
        return parted

    def check_closures(self, program, args, counts):
        self.assertEqual(([arg[0] for arg in args], tuple(len(arg[1]) for arg in args)), (["make"] * len(counts), counts))
        names = [name for arg in args for name in arg[1]]
        self.assertEqual(len(names), len(set(names)))
        for name in names:
            self.assertTrue(re.fullmatch("y[0-9]+", name) and name not in program, name)
        for arg in args:
            for body in bodies_of(arg[2]):
                self.assertLessEqual(len(body[1]) if body[0] == "choose" else 1, 6)
                self.assertIn(body[1] if body[0] == "call" else arg[1], (*arg[1], arg[1]))

    def test_without_parameters(self):
        joint = line(3, wrong=[(1, "sign"), (2, "sign")])
        program = Program([("one", (), SIGN), ("two", (), ("choose", (("when", (1, 2), SIGN), STOP))),
                           ("low", (), ("when", (0, 1), SIGN)), ("none", (), STOP), ("ever", (), call("ever"))])
        self.assertIsNone(self.check(program, joint, "one", "two"))
        self.assertIsNone(self.check(program, joint, "none", "ever"))
        self.assertIsNone(self.check(program, joint, "low", "low"))
        self.assertEqual(self.check(program, joint, "one", "low"), (2, (), "one"))
        self.assertEqual(self.check(program, joint, "low", "one"), (2, (), "one"))
        self.assertIn(self.check(program, joint, "none", "low"), [(1, (), "low")])

    def test_with_commands(self):
        joint = line(3, wrong=[(2, "sign")])
        program = Program([("one", X, ("do", "+a", call("x"))), ("two", (("u", 0),), ("do", "+a", ("do", "-a", ("do", "+a", call("u"))))),
                           ("far", X, ("do", "+a", ("do", "+a", call("x"))))])
        self.assertIsNone(self.check(program, joint, "one", "two"))
        self.check(program, joint, "one", "far")
        self.check(program, joint, "far", "two")

    def test_with_functions(self):
        joint = line(3, wrong=[(2, "sign"), (0, "release")])
        once = call("f", ("use", "x"))
        twice = call("f", make("", once))
        program = Program([("one", FX, once), ("two", FX, twice), ("both", FX, ("choose", (once, twice))),
                           ("same", FX, ("choose", (twice, ("do", "+a", ("do", "-a", once)), once))),
                           ("pick", (("g", 2), ("x", 0)), call("g", ("use", "x"), make("", STOP))),
                           ("tick", (("g", 2), ("x", 0)), call("g", make("", STOP), ("use", "x"))),
                           ("y0", (), STOP), ("y2", (), STOP)])
        for first, second in itertools.permutations(["one", "two", "both", "same"], 2):
            self.check(program, joint, first, second)
        self.assertTrue(alike(program, joint.judged([]), "one", "two"))
        _, args, _ = self.check(program, joint, "pick", "tick")
        self.assertEqual(args[0][1], ("y1", "y3"))

    def test_many_ways(self):
        # Eight states are needed of one command, so the choice among them is made in two steps.
        joint = line(9, wrong=[(8, "sign")])
        ways = tuple(range(8))
        walk = STOP
        for state in ways:
            walk = ("choose", (("when", (state,), call("f", make("", walk))), STOP))
        program = Program([("one", (("f", 1),), walk), ("two", (("f", 1),), STOP)])
        self.check(program, joint, "one", "two")

    def test_in_the_place_of_each_other(self):
        joint = line(2, wrong=[(1, "sign")])
        body = ("choose", (call("x"), ("do", "+a", call("x"))))
        other = ("choose", (("do", "+a", call("x")), call("x"), ("do", "+a", ("do", "-a", call("x")))))
        program = Program([("one", X, body), ("two", X, other)])
        self.assertTrue(alike(program, joint, "one", "two"))
        for user in [lambda name: call(name, make("", SIGN)), lambda name: call("use", ("use", name))]:
            tables = []
            for name in ["one", "two"]:
                more = [("use", (("f", 1),), call("f", make("", ("do", "+a", SIGN)))), ("main", (), user(name))]
                tables.append(table(program.extended(more), joint))
            self.assertEqual(*tables)

    def test_errors_in_order(self):
        joint = line(2, wrong=[(1, "sign")])
        program = Program([("one", X, STOP), ("two", (("f", 1),), STOP), ("main", (), STOP),
                           ("many", (("f", 3), ("x", 0)), STOP)])
        for action in [alike, part]:
            for body, error, fields in [(("do", "no", STOP), UnknownEvent, {"event": "no"}),
                                        (("when", (2,), STOP), UnknownState, {"state": 2}),
                                        (("mode", (1,), STOP), UnknownState, {"state": 1}),
                                        (("shows", (), STOP), BadLimit, {"limit": ()})]:
                self.assertEqual(raised(action, Program([("main", (), body)]), joint, "none", "no"), (error, fields))
            self.assertEqual(raised(action, program, joint, "none", "no"), (UnknownName, {"name": "none"}))
            self.assertEqual(raised(action, program, joint, "one", "no"), (UnknownName, {"name": "no"}))
            self.assertEqual(raised(action, program, joint, "one", "two"),
                             (KindMismatch, {"wanted": (0,), "found": (1,)}))
            self.assertEqual(raised(action, program, joint, "main", "many"),
                             (KindMismatch, {"wanted": (), "found": (3, 0)}))
            # No run starts here, so definitions with parameters are taken.
            self.assertIsNone(raised(action, program, joint, "two", "two"))

    def test_held_against_the_table(self):
        found = {True: 0, False: 0}
        for seed in range(400):
            chance = random.Random(seed)
            joint = random_joint(seed, contents=3, modes=2, share=0.1)
            shape = chance.choice([(), (0,), (1,), (1, 0), (2,), (0, 0)])
            program = random_program(seed, joint, definitions=4, counts=(shape,), depth=3, modes=2)
            if len(table(program, joint)) > 150:
                continue
            for first, second in itertools.combinations(program.names[1:], 2):
                found[self.check(program, joint, first, second) is None] += 1
        self.assertGreater(min(found.values()), 60, found)

    def test_what_is_passed_stays(self):
        joint = line(2, wrong=[(1, "release")])
        program = Program([("one", (), RELEASE), ("two", (), STOP)])
        before = (list(program), joint.pairs, joint.wrong)
        part(program, joint, "one", "two")
        self.assertEqual((list(program), joint.pairs, joint.wrong), before)


if __name__ == "__main__":
    unittest.main()
