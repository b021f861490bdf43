"""Point 67: lists of facts that are closed or not, and facts that rest on those before them or not."""

import random
import unittest

from drawingoffice.closed import first_open, first_unfounded
from drawingoffice.errors import BadLimit, UnknownEvent, UnknownState
from drawingoffice.programs import Program
from drawingoffice.tables import table
from small_cards import raised
from small_programs import STOP, Judge, all_needs, implies, possible_ways, random_joint, random_program
from test_tables import FX, X, call, line, make

SIGN = ("do", "sign", STOP)
APPLY = ("apply", FX, call("f", ("use", "x")))
PROGRAM = Program([APPLY, ("step", X, ("do", "+a", call("x"))),
                   ("main", (), call("apply", ("use", "step"), make("", SIGN)))])


def all_facts(program, joint, most=99):
    return [(name, state, needs) for name, params, _ in program for state in range(len(joint.pairs))
            for needs in all_needs(joint, [count for _, count in params], most)]


def open_by_hand(program, joint, facts):
    """All facts that rest on the list and that none of its facts implies."""
    judge = Judge(program, joint, facts)
    return [fact for fact in all_facts(program, joint)
            if not any(implies(other, fact) for other in facts) and judge.rests(fact)]


def unfounded_by_hand(program, joint, facts):
    for at, fact in enumerate(facts):
        if not Judge(program, joint, facts[:at]).rests(fact):
            return at
    return None


class Closed(unittest.TestCase):
    def setUp(self):
        self.joint = line(2, wrong=[(1, "sign")])
        self.table = table(PROGRAM, self.joint)

    def check(self, program, joint, facts):
        found, opens = first_open(program, joint, facts), open_by_hand(program, joint, facts)
        self.assertIn(found, opens or [None])
        self.assertEqual(first_unfounded(program, joint, facts), unfounded_by_hand(program, joint, facts))
        return found

    def test_the_table_is_closed(self):
        self.assertIsNone(self.check(PROGRAM, self.joint, self.table))
        self.assertIsNone(self.check(PROGRAM, self.joint, self.table[::-1]))
        self.assertIsNone(self.check(PROGRAM, self.joint, self.table + self.table))

    def test_an_empty_list(self):
        self.assertIsNotNone(self.check(PROGRAM, self.joint, []))
        self.assertIsNone(self.check(PROGRAM, self.joint.judged([]), []))
        self.assertIsNone(self.check(Program([]), self.joint, []))
        self.assertIsNone(self.check(Program([("main", (), call("main"))]), self.joint, []))

    def test_a_fact_that_is_left_out(self):
        for at, fact in enumerate(self.table):
            found = self.check(PROGRAM, self.joint, self.table[:at] + self.table[at + 1:])
            self.assertEqual(found[:2], fact[:2])
        # Only what rests on the rest of the list is open: without the facts of apply, main does not go wrong.
        others = [fact for fact in self.table if fact[0] == "step"]
        self.assertEqual(self.check(PROGRAM, self.joint, others)[0], "apply")

    def test_a_fact_that_implies_more(self):
        fewer = [("apply", 0, ()) if fact[0] == "apply" else fact for fact in self.table]
        self.assertEqual(self.check(PROGRAM, self.joint, fewer)[:2], ("apply", 1))
        true = ("apply", 0, ((0, (0, 0, 1)), (1, (1,))))
        self.assertIn(true, self.table)
        more = [fact for fact in self.table if fact != true]
        # With a greater need the fact does not imply the one that is left out.
        self.assertEqual(self.check(PROGRAM, self.joint, more + [("apply", 0, (true[2][0], (1, (0,)), true[2][1]))]), true)

    def test_false_facts_and_facts_that_repeat(self):
        self.assertEqual(first_unfounded(PROGRAM, self.joint, self.table[::-1] + [("main", 1, ())]), 0)
        founded = sorted(self.table, key=lambda fact: fact[0] == "main")
        self.assertIsNone(first_unfounded(PROGRAM, self.joint, founded))
        self.assertIsNone(first_unfounded(PROGRAM, self.joint, founded + founded))
        self.assertEqual(first_unfounded(PROGRAM, self.joint, founded + [("main", 1, ())]), len(founded))
        self.assertEqual(first_unfounded(PROGRAM, self.joint, [("main", 0, ())] + founded), 0)
        self.assertIsNone(first_unfounded(PROGRAM, self.joint, []))
        # A false fact can make further facts rest on the list, also in states that are harmless.
        joint = line(2, wrong=[(0, "sign")]).judged([(0, "sign"), (0, "-a")])
        program = Program([("one", (), call("two")), ("two", (), STOP)])
        self.assertEqual(first_open(program, joint, [("two", 1, ())]), ("one", 1, ()))
        self.assertIsNone(first_open(program, joint, [("two", 1, ()), ("one", 1, ())]))
        self.assertEqual(first_unfounded(program, joint, [("two", 1, ()), ("one", 1, ())]), 0)

    def test_what_is_passed_stays(self):
        facts = list(self.table)
        first_open(PROGRAM, self.joint, facts)
        first_unfounded(PROGRAM, self.joint, facts)
        self.assertEqual(facts, self.table)
        self.assertIsNone(first_open(PROGRAM, self.joint, tuple(facts)))

    def test_errors_in_order(self):
        for body, error, fields in [(("do", "no", STOP), UnknownEvent, {"event": "no"}),
                                    (("when", (2,), STOP), UnknownState, {"state": 2}),
                                    (("mode", (1,), STOP), UnknownState, {"state": 1}),
                                    (("shows", (), STOP), BadLimit, {"limit": ()})]:
            program = Program([("main", (), ("choose", (STOP, body, ("do", "no2", STOP))))])
            for action in [first_open, first_unfounded]:
                self.assertEqual(raised(action, program, self.joint, [("main", 0, ())]), (error, fields))

    def test_held_against_asking_each_possible_fact(self):
        answers = {True: 0, False: 0}
        for seed in range(500):
            chance = random.Random(seed)
            joint = random_joint(seed, contents=2, share=chance.choice([0.1, 0.2]))
            counts = chance.choice([((), (1,)), ((), (0,), (1,)), ((0, 0), (0,)), ((0,), (1,))])
            program = random_program(seed, joint, definitions=3, counts=counts, depth=3)
            if max(sum(len(possible_ways(joint, count)) for _, count in params) for _, params, _ in program) > 6:
                continue
            every, facts = all_facts(program, joint), table(program, joint)
            for _ in range(3):
                changed = list(facts)
                for _ in range(chance.choice([1, 1, 3])):
                    if changed and chance.random() < 0.5:
                        changed.pop(chance.randrange(len(changed)))
                    else:
                        changed.insert(chance.randint(0, len(changed)), chance.choice(every))
                answers[self.check(program, joint, changed) is None] += 1
        self.assertGreater(min(answers.values()), 100, answers)


if __name__ == "__main__":
    unittest.main()
