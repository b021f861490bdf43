"""Points 64 to 67: tables, and whether runs go wrong."""

import itertools
import random
import unittest

from drawingoffice.changes import Change
from drawingoffice.closed import first_open, first_unfounded
from drawingoffice.errors import BadLimit, NeedsArguments, UnknownEvent, UnknownName, UnknownState
from drawingoffice.joints import joined
from drawingoffice.programs import Program
from drawingoffice.rules import Rules
from drawingoffice.stores import Store
from drawingoffice.tables import goes_wrong, table
from small_cards import raised
from small_programs import (LIMIT, OTHER, RELEASE, STOP, Judge, all_runs_end, grown_by_hand, implies, make_office,
                            possible_ways, random_joint, random_program, table_by_hand)


def line(length, *, wrong):
    """A joint in which `+a` leads from 0 to 1, from 1 to 2 and so on, in which just these pairs are wrong."""
    run = ("main",) + ("+a",) * (length - 1)
    rules = Rules(["sign"], [[0]], [])
    return joined(make_office(changes={"a": Change()}, facts=[("goes", run)], rules=rules), "main").judged(wrong)


def call(name, *args):
    return ("call", name, args)


def make(names, body):
    return ("make", tuple(names.split()), body)


X = (("x", 0),)
F = (("f", 1),)
FX = (("f", 1), ("x", 0))


class Tables(unittest.TestCase):
    def check(self, joint, definitions, expected, by_hand=True):
        program = Program(definitions)
        self.assertEqual(table(program, joint), expected)
        if by_hand:
            self.assertEqual(table_by_hand(program, joint), expected)
        for name in program.names:
            if not program[name][1]:
                self.assertEqual(goes_wrong(program, joint, name), (name, 0, ()) in expected)

    def test_events(self):
        joint = line(3, wrong=[(1, "sign"), (2, "+a")])
        self.check(joint, [("main", (), ("do", "sign", STOP))], [("main", 1, ())])
        self.check(joint, [("main", (), ("do", "+a", ("do", "sign", STOP)))], [("main", 0, ()), ("main", 2, ())])
        # An event that is ended ends the run.
        self.check(joint, [("main", (), ("do", "-a", ("do", "sign", STOP)))], [("main", 2, ())])
        self.check(joint, [("main", (), STOP)], [])
        self.check(joint.judged([]), [("main", (), ("do", "sign", STOP))], [])
        self.check(joint, [], [])

    def test_choices_and_tests(self):
        joint = line(2, wrong=[(0, "sign"), (1, "release")])
        for body, states in [(("choose", (STOP, ("do", "sign", STOP))), [0]),
                             (("choose", (RELEASE, ("do", "sign", STOP))), [0, 1]), (("choose", (RELEASE,)), [1]),
                             (("when", (0,), RELEASE), []), (("when", (1, 0), RELEASE), [1]),
                             (("mode", (0,), RELEASE), [1]), (("mode", (), RELEASE), []),
                             (("shows", LIMIT, RELEASE), [1]), (("shows", OTHER, RELEASE), [])]:
            self.check(joint, [("main", (), body)], [("main", state, ()) for state in states])

    def test_definitions_that_call_themselves_for_ever(self):
        joint = line(3, wrong=[(2, "sign")])
        self.check(joint, [("main", (), call("main"))], [])
        self.check(joint, [("main", (), call("other")), ("other", (), call("main"))], [])
        self.check(joint, [("df", X, call("df", ("use", "x")))], [])
        walk = ("choose", (("do", "+a", call("main")), ("do", "sign", STOP)))
        self.check(joint, [("main", (), walk)], [("main", 0, ()), ("main", 1, ()), ("main", 2, ())])
        many = ("many", FX, ("choose", (call("x"), call("f", make("", call("many", ("use", "f"), ("use", "x")))))))
        go = ("go", (), call("many", make("k", ("do", "+a", call("k"))), make("", ("do", "sign", STOP))))
        self.check(line(2, wrong=[(1, "sign")]), [many, go],
                   [("many", 0, ((0, (0,)),)), ("many", 0, ((0, (0, 0, 1)), (0, (1,)))),
                    ("many", 0, ((0, (0, 0, 1)), (1, (1,)))), ("many", 0, ((1, (0,)),)),
                    ("many", 1, ((0, (0,)), (0, (1, 0, 0)))), ("many", 1, ((0, (1,)),)),
                    ("many", 1, ((0, (1, 0, 0)), (1, (0,)))), ("many", 1, ((1, (1,)),)),
                    ("go", 0, ()), ("go", 1, ())])

    def test_commands_and_functions(self):
        joint = line(2, wrong=[(1, "sign")])
        self.check(joint, [("df", X, ("do", "+a", call("x")))], [("df", 0, ((0, (1,)),))])
        # A way from a harmless state is not possible.
        self.check(joint, [("df", X, ("do", "sign", call("x")))], [("df", 0, ((0, (0,)),)), ("df", 1, ())])
        self.check(line(2, wrong=[(0, "sign")]).judged([(0, "sign")]), [("df", X, call("x"))],
                   [("df", 0, ((0, (0,)),)), ("df", 1, ((0, (1,)),))])
        self.check(joint, [("df", F, call("dg", ("use", "f"))), ("dg", (("g", 1),), call("g", make("", STOP)))],
                   [("df", 0, ((0, (0,)),)), ("df", 1, ((0, (1,)),)), ("dg", 0, ((0, (0,)),)), ("dg", 1, ((0, (1,)),))])
        self.check(joint, [("df", FX, call("f", ("use", "x")))],
                   [("df", 0, ((0, (0,)),)), ("df", 0, ((0, (0, 0, 0)), (1, (0,)))),
                    ("df", 0, ((0, (0, 0, 1)), (1, (1,)))), ("df", 1, ((0, (1,)),)),
                    ("df", 1, ((0, (1, 0, 0)), (1, (0,)))), ("df", 1, ((0, (1, 0, 1)), (1, (1,))))])

    def test_harmless_states(self):
        # From state 1 nothing leads to the wrong event in state 0.
        changes = {"a": Change()}
        rules = Rules(["sign"], [[1], [1]], [])
        joint = joined(make_office(changes=changes, rules=rules), "main").judged([(0, "release")])
        self.assertEqual(joint.pairs, [(0, 0), (0, 1)])
        self.assertEqual(possible_ways(joint, 1), [(0,), (0, 0, 0)])
        self.check(joint, [("df", FX, call("f", ("use", "x"))), ("dg", X, ("do", "sign", call("x")))],
                   [("df", 0, ((0, (0,)),)), ("df", 0, ((0, (0, 0, 0)), (1, (0,))))])

    def test_what_is_handed_on(self):
        joint = line(2, wrong=[(1, "sign")])
        step, sign = ("step", X, ("do", "+a", call("x"))), ("sign", (), ("do", "sign", STOP))
        apply = ("apply", FX, call("f", ("use", "x")))
        program = [step, sign, apply, ("main", (), call("apply", ("use", "step"), ("use", "sign"))),
                   ("both", (), call("apply", ("use", "step"), make("", call("main"))))]
        told = table(Program(program), joint)
        self.assertEqual([fact for fact in told if fact[0] in ("main", "both")], [("main", 0, ())])
        self.assertEqual(told, table_by_hand(Program(program), joint))

    def test_a_closure_calls_one_of_its_names(self):
        joint = line(3, wrong=[(0, "sign"), (2, "sign")])
        pick = ("pick", (("g", 2),), call("g", make("", ("do", "sign", STOP)), make("", ("do", "+a", ("do", "sign", STOP)))))
        for body, states in [(call("u"), [0, 2]), (call("v"), [1]), (("do", "+a", call("v")), [0]),
                             (("choose", (call("u"), call("v"))), [0, 1, 2]), (STOP, [])]:
            program = Program([pick, ("main", (), call("pick", make("u v", body)))])
            self.assertEqual([fact[1] for fact in table(program, joint) if fact[0] == "main"], states)
            self.assertEqual(goes_wrong(program, joint, "main"), 0 in states)

    def test_a_closure_uses_names_from_around(self):
        joint = line(2, wrong=[(1, "sign")])
        apply = ("apply", FX, call("f", ("use", "x")))
        outer = ("outer", (("y", 0), ("z", 0)), call("apply", make("k", ("choose", (("do", "+a", call("y")), call("k")))),
                                                     make("", ("do", "+a", call("z")))))
        told = table(Program([apply, outer]), joint)
        self.assertEqual([fact for fact in told if fact[0] == "outer"],
                         [("outer", 0, ((0, (1,)),)), ("outer", 0, ((1, (1,)),))])

    def test_held_against_the_words(self):
        needs, ordered, tables = {}, 0, 0
        for seed in range(700):
            chance = random.Random(seed)
            joint = random_joint(seed, contents=2, modes=chance.choice([1, 2]), share=chance.choice([0.05, 0.1, 0.3]))
            counts = chance.choice([((), (1,)), ((1,), (1, 0)), ((), (0,), (1,)), ((0, 0), (2,), (1,)), ((0,), (1, 0))])
            program = random_program(seed, joint, definitions=3, counts=counts, depth=chance.choice([3, 4]))
            if max(sum(len(possible_ways(joint, count)) for _, count in params) for _, params, _ in program) > 9:
                continue
            told = table(program, joint)
            self.assertEqual(told, table_by_hand(program, joint), seed)
            for fact in told:
                needs[len(fact[2])] = needs.get(len(fact[2]), 0) + 1
            self.check_table(program, joint, told)
            ordered += self.can_be_ordered(program, joint, told)
            tables += 1
        self.assertGreater(min(needs[size] for size in range(3)), 20, needs)
        # In few tables two facts rest on each other alone, because the facts that they were found by are implied.
        self.assertLess(tables - ordered, ordered // 10)

    def check_table(self, program, joint, told):
        """It is closed, none of its facts implies another one, and each one is among facts that rest on earlier ones."""
        self.assertIsNone(first_open(program, joint, told))
        self.assertFalse([pair for pair in itertools.permutations(told, 2) if implies(*pair)])
        founded = grown_by_hand(program, joint)
        self.assertIsNone(first_unfounded(program, joint, founded))
        self.assertLessEqual(set(told), set(founded))

    def can_be_ordered(self, program, joint, told):
        """True if in some order each fact of the table rests on the facts before it."""
        order, left = [], list(told)
        while left:
            judge = Judge(program, joint, order)
            founded = [fact for fact in left if judge.rests(fact)]
            if not founded:
                return False
            order += founded
            left = [fact for fact in left if fact not in founded]
        self.assertIsNone(first_unfounded(program, joint, order))
        return True

    def test_what_is_returned_is_new(self):
        joint = line(2, wrong=[(0, "sign")])
        program = Program([("main", (), ("do", "sign", STOP))])
        table(program, joint).clear()
        self.assertEqual(table(program, joint), [("main", 0, ())])


class GoesWrong(unittest.TestCase):
    def test_errors_in_order(self):
        joint = line(2, wrong=[])
        cases = [(("do", "no", STOP), UnknownEvent, {"event": "no"}), (("when", (0, 2), STOP), UnknownState, {"state": 2}),
                 (("mode", (1,), STOP), UnknownState, {"state": 1}), (("shows", (), STOP), BadLimit, {"limit": ()})]
        for body, error, fields in cases:
            program = Program([("df", X, ("choose", (STOP, body))), ("main", (), ("do", "no2", STOP))])
            self.assertEqual(raised(goes_wrong, program, joint, "none"), (error, fields))
            self.assertEqual(raised(table, program, joint), (error, fields))
        program = Program([("df", X, STOP), ("main", (), STOP)])
        self.assertEqual(raised(goes_wrong, program, joint, "none"), (UnknownName, {"name": "none"}))
        self.assertEqual(raised(goes_wrong, program, joint, "df"), (NeedsArguments, {"name": "df"}))
        self.assertFalse(goes_wrong(program, joint, "main"))

    def test_held_against_all_replays(self):
        answers = {True: 0, False: 0}
        for seed in range(900):
            joint = random_joint(seed, contents=3, modes=2, share=0.08)
            program = random_program(seed, joint, definitions=4, depth=3, modes=2, loops=False,
                                     counts=((), (0,), (1,), (1, 0), (2,)))
            answer = all_runs_end(program, joint, "d0", 9)
            if answer is not None:
                self.assertEqual(goes_wrong(program, joint, "d0"), answer, seed)
                answers[answer] += 1
        self.assertGreater(min(answers.values()), 60, answers)

    def test_held_against_the_table(self):
        answers = {True: 0, False: 0}
        for seed in range(700):
            joint = random_joint(seed, contents=3, modes=2, share=0.05)
            program = random_program(seed, joint, definitions=4, depth=3, modes=2,
                                     counts=((), (0,), (1,), (1, 0), (0, 0)))
            told = table(program, joint)
            for name in program.names:
                if not program[name][1]:
                    answer = goes_wrong(program, joint, name)
                    self.assertEqual(answer, (name, 0, ()) in told, (seed, name))
                    answers[answer] += 1
        self.assertGreater(min(answers.values()), 60, answers)

    def test_long_runs(self):
        # Each definition calls its function twice, so that the step is done 2 ** 7 times.
        joint = line(2 ** 7 + 1, wrong=[(2 ** 7, "sign")])
        definitions = [("d7", FX, call("f", ("use", "x")))]
        for at in range(7):
            inner = make("k", call("d" + str(at + 1), ("use", "f"), ("use", "k")))
            definitions.append(("d" + str(at), FX, call("twice", inner, ("use", "x"))))
        definitions.append(("twice", FX, call("f", make("", call("f", ("use", "x"))))))
        definitions.append(("main", (), call("d0", make("j", ("do", "+a", call("j"))), make("", ("do", "sign", STOP)))))
        program = Program(definitions)
        self.assertTrue(goes_wrong(program, joint, "main"))
        self.assertFalse(goes_wrong(program, joint.judged([(2 ** 7 - 1, "sign")]), "main"))

    def test_loops_through_many_states(self):
        # All ways through a cube whose corners are contents: there are far too many to look at each one.
        names = ["a", "b", "c", "d"]
        moves = [(at, name, at + 2 ** bit) for bit, name in enumerate(names) for at in range(16) if not at & 2 ** bit]
        rules = Rules(["release", "sign"], [[1, 0], [1, 1]], [])
        office = make_office(changes={name: Change() for name in names}, rules=rules)
        joint = joined(office, "main", store=Store(16, {"main": 0}, moves))
        step = ("choose", tuple(("do", sign + name, call("k")) for name in names for sign in "+-"))
        many = ("many", FX, ("choose", (call("x"), call("f", make("", call("many", ("use", "f"), ("use", "x")))))))
        main = ("main", (), call("many", make("k", step), make("", ("do", "release", ("do", "sign", STOP)))))
        program = Program([many, main])
        self.assertEqual(len(joint.pairs), 32)
        for state, (_, mode) in enumerate(joint.pairs):
            self.assertEqual(goes_wrong(program, joint.judged([(state, "sign")]), "main"), mode == 1)


if __name__ == "__main__":
    unittest.main()
