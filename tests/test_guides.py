"""Point 67: the steps of a run that goes wrong."""

import itertools
import random
import unittest

from drawingoffice.errors import BadLimit, NeedsArguments, NoRun, UnknownEvent, UnknownName, UnknownState
from drawingoffice.guides import steps_to_wrong
from drawingoffice.programs import Program
from drawingoffice.replays import replay
from drawingoffice.tables import goes_wrong
from small_cards import raised
from small_programs import STOP, entered, random_joint, random_program, test_by_hand
from test_tables import FX, X, call, line, make

SIGN = ("do", "sign", STOP)


def first_step(program, joint, name):
    for step in steps_to_wrong(program, joint, name):
        return step


class Guides(unittest.TestCase):
    def check(self, program, joint, name):
        """The steps, followed one by one through the bodies, are a run whose last event is wrong."""
        steps = list(itertools.islice(steps_to_wrong(program, joint, name), 20000))
        body, state, due = program[name][2], 0, list(steps)
        while due:
            if body[0] in ("when", "mode", "shows"):
                self.assertTrue(test_by_hand(joint, state, body))
                body = body[2]
                continue
            kind, told = due.pop(0)
            self.assertEqual(kind, body[0])
            if kind == "do":
                self.assertEqual(told, body[1])
                self.assertEqual((state, told) in joint.wrong, not due)
                state, body = joint.next_state(state, told), body[2]
            elif kind == "choose":
                body = body[1][told]
            else:
                body = entered(program, body[1], body[2])
        choices = [told for kind, told in steps if kind == "choose"]
        events = [told for kind, told in steps if kind == "do"]
        end = replay(program, joint, name, choices, limit=len(steps))
        self.assertEqual((end[0], end[1], end[3]), ("wrong", events, len(choices)))
        return steps

    def test_steps(self):
        joint = line(2, wrong=[(1, "sign")])
        program = Program([("main", (), ("choose", (STOP, ("choose", (("do", "+a", ("mode", (0,), SIGN)),)))))])
        self.assertEqual(self.check(program, joint, "main"),
                         [("choose", 1), ("choose", 0), ("do", "+a"), ("do", "sign")])

    def test_a_call_has_the_name_that_the_body_has(self):
        joint = line(2, wrong=[(1, "sign")])
        program = Program([("apply", FX, call("f", ("use", "x"))), ("step", X, ("do", "+a", call("x"))),
                           ("main", (), call("apply", ("use", "step"), make("", SIGN))),
                           ("other", (), call("apply", make("k", call("step", ("use", "k"))), make("", call("end")))),
                           ("end", (), SIGN)])
        self.assertEqual(self.check(program, joint, "main"), [
            ("call", "apply"), ("call", "f"), ("do", "+a"), ("call", "x"), ("do", "sign")])
        self.assertEqual(self.check(program, joint, "other"), [
            ("call", "apply"), ("call", "f"), ("call", "step"), ("do", "+a"), ("call", "x"),
            ("call", "end"), ("do", "sign")])

    def test_closures_that_are_made_again_and_again(self):
        # Only the closure that was made in the first call leads on.
        joint = line(5, wrong=[(4, "sign")])
        more = ("choose", (call("x"), call("grow", make("", ("do", "+a", call("x"))))))
        program = Program([("grow", X, more), ("main", (), call("grow", make("", SIGN)))])
        steps = self.check(program, joint, "main")
        self.assertEqual([told for kind, told in steps if kind == "do"], ["+a"] * 4 + ["sign"])
        # The same with a function that is made anew from the one before.
        more = ("choose", (call("f", make("", SIGN)), call("grow", make("k", call("f", make("", ("do", "+a", call("k"))))))))
        program = Program([("grow", (("f", 1),), more), ("main", (), call("grow", make("j", call("j"))))])
        steps = self.check(program, joint, "main")
        self.assertEqual([told for kind, told in steps if kind == "do"], ["+a"] * 4 + ["sign"])

    def test_a_long_run(self):
        # The length doubles with each definition.
        joint = line(2 ** 9 + 1, wrong=[(2 ** 9, "sign")])
        definitions = [("twice", FX, call("f", make("", call("f", ("use", "x"))))), ("d9", FX, call("f", ("use", "x")))]
        for at in range(9):
            inner = make("k", call("d" + str(at + 1), ("use", "f"), ("use", "k")))
            definitions.append(("d" + str(at), FX, call("twice", inner, ("use", "x"))))
        definitions.append(("main", (), call("d0", make("j", ("do", "+a", call("j"))), make("", SIGN))))
        steps = list(steps_to_wrong(Program(definitions), joint, "main"))
        self.assertEqual([told for kind, told in steps if kind == "do"], ["+a"] * 2 ** 9 + ["sign"])

    def test_no_run(self):
        joint = line(2, wrong=[(1, "sign")])
        program = Program([("main", (), ("choose", (SIGN, call("main"))))])
        for wrong in [[], [(1, "sign")], [(0, "+a")]]:
            self.assertEqual(raised(first_step, program, joint.judged(wrong), "main"), (NoRun, {}))

    def test_errors_come_with_the_first_step(self):
        joint = line(2, wrong=[])
        program = Program([("dx", X, STOP), ("main", (), STOP)])
        for name, error, fields in [("none", UnknownName, {"name": "none"}), ("dx", NeedsArguments, {"name": "dx"}),
                                    ("main", NoRun, {})]:
            steps = steps_to_wrong(program, joint, name)
            self.assertEqual(raised(list, steps), (error, fields))
        for body, error, fields in [(("do", "no", STOP), UnknownEvent, {"event": "no"}),
                                    (("when", (2,), STOP), UnknownState, {"state": 2}),
                                    (("mode", (1,), STOP), UnknownState, {"state": 1}),
                                    (("shows", (), STOP), BadLimit, {"limit": ()})]:
            program = Program([("main", (), body), ("dx", X, ("do", "no2", STOP))])
            self.assertEqual(raised(list, steps_to_wrong(program, joint, "none")), (error, fields))

    def test_held_against_replays(self):
        lengths = set()
        for seed in range(1200):
            chance = random.Random(seed)
            joint = random_joint(seed, contents=3, modes=2, share=0.06)
            program = random_program(seed, joint, definitions=4, depth=chance.choice([3, 4]), modes=2,
                                     counts=chance.choice([((), (0,), (1,), (1, 0)), ((), (1, 1), (2,), (0, 0))]))
            for name in program.names:
                if not program[name][1]:
                    if goes_wrong(program, joint, name):
                        lengths.add(len(self.check(program, joint, name)))
                    else:
                        self.assertEqual(raised(first_step, program, joint, name), (NoRun, {}))
        self.assertGreater(len(lengths), 12)


if __name__ == "__main__":
    unittest.main()
