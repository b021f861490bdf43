"""Point 63: replays."""

import random
import unittest

from drawingoffice.changes import Change
from drawingoffice.errors import BadChoice, BadLimit, NeedsArguments, UnknownEvent, UnknownName, UnknownState
from drawingoffice.joints import joined
from drawingoffice.programs import Program
from drawingoffice.replays import replay
from drawingoffice.rules import Rules
from small_cards import raised
from small_programs import LIMIT, OTHER, RELEASE, STOP, make_office, random_joint, random_program, replay_by_hand

RULES = Rules(["sign", "+b"], [[1, 0], [1, 0]], [(1, "sign")])


def sample():
    """A joint with the states (0, 0), (1, 0), (0, 1), (1, 1), in which `+b` is wrong at mode 0 and barred nowhere."""
    changes = {"a": Change(), "b": Change()}
    return joined(make_office(changes=changes, rules=RULES, facts=[("goes", ("main", "+a"))]), "main")


def program(*bodies, more=()):
    return Program([("main" if at == 0 else "d" + str(at), (), body) for at, body in enumerate(bodies)] + list(more))


class Replays(unittest.TestCase):
    def check(self, body, expected, choices=(), more=(), **options):
        told = program(body, more=more)
        self.assertEqual(replay(told, sample(), "main", list(choices), **options), expected)
        self.assertEqual(replay_by_hand(told, sample(), "main", list(choices), **options), expected)

    def test_stop_and_events(self):
        self.assertEqual(sample().pairs, [(0, 0), (1, 0), (0, 1), (1, 1)])
        self.check(STOP, ("stopped", [], 0, 0))
        self.check(("do", "+a", STOP), ("stopped", ["+a"], 1, 0))
        self.check(("do", "+a", ("do", "sign", ("do", "-a", STOP))), ("stopped", ["+a", "sign", "-a"], 2, 0))

    def test_wrong_and_ended(self):
        self.check(("do", "+a", ("do", "+a", STOP)), ("wrong", ["+a", "+a"], 1, 0))
        self.check(("do", "sign", ("do", "sign", ("do", "+a", STOP))), ("ended", ["sign", "sign"], 2, 0))
        self.check(("do", "+b", STOP), ("wrong", ["+b"], 0, 0))

    def test_choices(self):
        body = ("choose", (("do", "+a", ("choose", (STOP, RELEASE))), ("choose", (("do", "sign", STOP),))))
        self.check(body, ("choices", [], 0, 0))
        self.check(body, ("choices", ["+a"], 1, 1), [0])
        self.check(body, ("stopped", ["+a", "release"], 1, 2), [0, 1])
        self.check(body, ("choices", [], 0, 1), [1])
        self.check(body, ("stopped", ["sign"], 2, 2), (1, 0, 7))

    def test_a_choice_that_is_no_index(self):
        told = program(("choose", (STOP, ("do", "+a", ("choose", (STOP,))))))
        for choices, at, choice in [([2], 0, 2), ([-1], 0, -1), ([1, 1], 1, 1), ([1, -1, 9], 1, -1), ([10 ** 40], 0, 10 ** 40)]:
            self.assertEqual(raised(replay, told, sample(), "main", choices), (BadChoice, {"at": at, "choice": choice}))
        # A choice that is not taken plays no part.
        self.check(("choose", (STOP,)), ("stopped", [], 0, 1), [0, 99])
        self.check(("do", "+b", ("choose", (STOP,))), ("wrong", ["+b"], 0, 0), [99])

    def test_tests(self):
        for body, goes in [(("when", (0, 2), RELEASE), True), (("when", (1, 2, 3), RELEASE), False),
                           (("when", (), RELEASE), False), (("mode", (1,), RELEASE), False),
                           (("mode", (0, 1), RELEASE), True), (("shows", LIMIT, RELEASE), True),
                           (("shows", OTHER, RELEASE), False)]:
            self.check(body, ("stopped", ["release"] if goes else [], 0, 0))
        self.check(("do", "sign", ("mode", (1,), ("when", (2,), RELEASE))), ("stopped", ["sign", "release"], 2, 0))

    def test_calls(self):
        step = ("step", (("k", 0),), ("do", "+a", ("call", "k", ())))
        pick = ("pick", (("f", 1), ("g", 2), ("x", 0)),
                ("choose", (("call", "f", (("use", "x"),)), ("call", "g", (("use", "x"), ("make", (), STOP))))))
        body = ("call", "pick", (("use", "step"), ("make", ("u", "v"), ("do", "sign", ("call", "u", ()))),
                                 ("make", (), RELEASE)))
        self.check(body, ("stopped", ["+a", "release"], 1, 1), [0], [step, pick])
        self.check(body, ("stopped", ["sign", "release"], 2, 1), [1], [step, pick])

    def test_a_closure_keeps_the_bindings_of_its_place(self):
        # The closure that is made first calls the x of the first call, although the second call binds another x.
        twice = ("twice", (("f", 1), ("x", 0)),
                 ("choose", (("call", "f", (("use", "x"),)),
                             ("call", "twice", (("make", ("k",), ("do", "+a", ("call", "x", ()))),
                                                ("make", (), ("do", "sign", STOP)))))))
        body = ("call", "twice", (("make", ("j",), STOP), ("make", (), RELEASE)))
        self.check(body, ("stopped", [], 0, 1), [0], [twice])
        self.check(body, ("stopped", ["+a", "release"], 1, 2), [1, 0], [twice])

    def test_the_limit_of_calls(self):
        for limit in [0, 1, 2, 7, 2000]:
            self.check(("call", "main", ()), ("limit", [], 0, 0), limit=limit)
        self.check(("call", "main", ()), ("limit", [], 0, 0))
        body = ("call", "d1", ())
        one = ("d1", (), ("do", "+a", ("call", "d2", (("make", (), RELEASE),))))
        two = ("d2", (("x", 0),), ("choose", (("call", "x", ()),)))
        for limit, expected in [(0, ("limit", [], 0, 0)), (1, ("limit", ["+a"], 1, 0)), (2, ("limit", ["+a"], 1, 1)),
                                (3, ("stopped", ["+a", "release"], 1, 1))]:
            self.check(body, expected, [0], [one, two], limit=limit)
        # The default is 100 calls.
        count = ("count", (), ("choose", (("call", "count", ()), STOP)))
        self.check(("call", "count", ()), ("limit", [], 0, 100), [0] * 500, [count])
        self.check(("call", "count", ()), ("stopped", [], 0, 100), [0] * 99 + [1], [count])

    def test_a_release_that_is_wrong(self):
        office = make_office(drawings=None, changes={}, waived=[])
        joint = joined(office, "main").judged([(0, "release")])
        self.assertEqual(replay(program(RELEASE), joint, "main", []), ("wrong", ["release"], 0, 0))
        self.assertEqual(replay(program(RELEASE), joint.judged([]), "main", []), ("ended", ["release"], 0, 0))

    def test_errors_in_order(self):
        joint = sample()
        bad = program(("choose", (("do", "no", STOP), ("when", (4,), STOP))))
        self.assertEqual(raised(replay, bad, joint, "none", [5]), (UnknownEvent, {"event": "no"}))
        for body, error, fields in [(("when", (3, 4), STOP), UnknownState, {"state": 4}),
                                    (("when", (-1,), STOP), UnknownState, {"state": -1}),
                                    (("mode", (1, 2), STOP), UnknownState, {"state": 2}),
                                    (("shows", ("reach",), STOP), BadLimit, {"limit": ("reach",)})]:
            told = program(STOP, ("choose", (body, ("do", "no", STOP))))
            self.assertEqual(raised(replay, told, joint, "none", []), (error, fields))
        told = program(("choose", (STOP,)), more=[("f", (("x", 0),), STOP)])
        self.assertEqual(raised(replay, told, joint, "none", [5]), (UnknownName, {"name": "none"}))
        self.assertEqual(raised(replay, told, joint, "f", [5]), (NeedsArguments, {"name": "f"}))
        self.assertEqual(raised(replay, told, joint, "main", [5]), (BadChoice, {"at": 0, "choice": 5}))

    def test_what_is_passed_stays(self):
        told, choices = program(("choose", (RELEASE,))), [0]
        first = replay(told, sample(), "main", choices)
        first[1].clear()
        self.assertEqual((replay(told, sample(), "main", choices)[1], choices), (["release"], [0]))
        self.assertRaises(TypeError, replay, told, sample(), "main", choices, 5)

    def test_held_against_runs_by_hand(self):
        ends = {}
        for seed in range(1500):
            chance = random.Random(seed)
            joint = random_joint(seed, contents=3, modes=2)
            told = random_program(seed, joint, definitions=4, depth=4, modes=2,
                                  counts=((), (0,), (1,), (1, 0), (2,), (0, 1, 3)))
            choices = [chance.choice([0, 0, 1, 2]) for _ in range(20)]
            limit = chance.choice([3, 60])
            try:
                expected = replay_by_hand(told, joint, "d0", choices, limit)
            except IndexError:
                self.assertEqual(raised(replay, told, joint, "d0", choices, limit=limit)[0], BadChoice)
                continue
            self.assertEqual(replay(told, joint, "d0", choices, limit=limit), expected)
            ends[expected[0]] = ends.get(expected[0], 0) + 1
        self.assertGreater(min(ends.get(end, 0) for end in ["wrong", "ended", "stopped", "limit"]), 30, ends)


if __name__ == "__main__":
    unittest.main()
