"""Point 72: clearances."""

import random
import unittest

from drawingoffice.clearances import clearance, clearance_holds
from drawingoffice.clearing import cleared
from drawingoffice.closed import first_open
from drawingoffice.errors import NeedsArguments, NotCleared, UnknownName, UnknownStart
from drawingoffice.joints import joined
from drawingoffice.tables import table
from small_cards import raised
from small_programs import RELEASE, STOP
from small_shops import make_shop, random_shop
from test_closed import all_facts

CUT = ("goes", ("main", "+cut"))
SAFE = [("main", (), ("choose", (RELEASE, ("call", "other", (("make", (), STOP),))))),
        ("other", (("x", 0),), ("choose", (("call", "x", ()), ("do", "+cut", ("call", "x", ()))))),
        ("bad", (), ("do", "+cut", RELEASE))]


class Clearances(unittest.TestCase):
    def check(self, office, name, facts):
        joint = joined(office, "main")
        expected = first_open(office.program, joint, facts) is None and (name, 0, ()) not in facts
        self.assertIs(clearance_holds(office, name, "main", facts), expected)
        return expected

    def test_a_clearance(self):
        office = make_shop(SAFE, facts=[CUT])
        told = clearance(office, "main", "main")
        self.assertEqual(told, table(office.program, joined(office, "main")))
        self.assertEqual(told, [("main", 1, ()), ("other", 0, ((0, (0,)),)), ("other", 0, ((0, (1,)),)), ("other", 1, ()),
                                ("bad", 0, ()), ("bad", 1, ())])
        self.assertTrue(self.check(office, "main", told))
        self.assertTrue(self.check(office, "main", told[::-1] + told))

    def test_a_fact_that_is_left_out(self):
        office = make_shop(SAFE, facts=[CUT])
        told = clearance(office, "main", "main")
        for at in range(len(told)):
            self.assertFalse(self.check(office, "main", told[:at] + told[at + 1:]))
        self.assertFalse(self.check(office, "main", []))
        self.assertTrue(self.check(make_shop([("main", (), STOP)]), "main", []))

    def test_false_facts(self):
        office = make_shop(SAFE, facts=[CUT])
        told = clearance(office, "main", "main")
        # The list may say too much as long as it stays closed and does not say that main goes wrong.
        self.assertFalse(self.check(office, "main", told + [("main", 0, ())]))
        self.assertFalse(self.check(office, "main", told + [("other", 0, ())]))
        spare = make_shop(SAFE + [("spare", (), STOP)], facts=[CUT])
        self.assertTrue(self.check(spare, "main", clearance(spare, "main", "main") + [("spare", 0, ())]))

    def test_errors(self):
        office = make_shop(SAFE, facts=[CUT])
        for action, more in [(clearance, ()), (clearance_holds, ([],))]:
            self.assertEqual(raised(action, office, "none", "no", *more), (UnknownStart, {"name": "no"}))
            self.assertEqual(raised(action, office, "none", "main", *more), (UnknownName, {"name": "none"}))
            self.assertEqual(raised(action, office, "other", "main", *more), (NeedsArguments, {"name": "other"}))
        self.assertEqual(raised(clearance, office, "bad", "main"), (NotCleared, {}))
        # No closed list leaves out what shows that the definition goes wrong.
        self.assertFalse(clearance_holds(office, "bad", "main", table(office.program, joined(office, "main"))))

    def test_what_is_passed_and_returned(self):
        office = make_shop(SAFE, facts=[CUT])
        clearance(office, "main", "main").clear()
        told = clearance(office, "main", "main")
        before = list(told)
        clearance_holds(office, "main", "main", told)
        self.assertEqual(told, before)
        self.assertTrue(clearance_holds(office, "main", "main", tuple(told)))

    def test_held_against_changed_lists(self):
        answers = {True: 0, False: 0}
        for seed in range(250):
            office = random_shop(seed)
            if office is None:
                continue
            joint = joined(office, "main")
            if len(joint.pairs) > 4 or not cleared(office, "d0", "main"):
                continue
            told = clearance(office, "d0", "main")
            self.assertEqual(told, table(office.program, joint))
            self.assertTrue(self.check(office, "d0", told))
            chance, every = random.Random(seed), all_facts(office.program, joint, 2)
            for _ in range(4):
                changed = list(told)
                if changed and chance.random() < 0.5:
                    changed.pop(chance.randrange(len(changed)))
                changed.insert(chance.randint(0, len(changed)), chance.choice(every))
                answers[self.check(office, "d0", changed)] += 1
        self.assertGreater(min(answers.values()), 60, answers)


if __name__ == "__main__":
    unittest.main()
