"""Points 76 and 77: desks, and what is supposed at them."""

import random
import unittest

from drawingoffice.binders import Binder
from drawingoffice.clearing import verdict
from drawingoffice.desks import Desk, Supposing
from drawingoffice.errors import (BadFact, BadLimit, DuplicateName, NeedsArguments, NoStore, UnknownChange, UnknownEvent,
                                  UnknownName, UnknownStart)
from drawingoffice.offices import Office
from drawingoffice.programs import Program
from drawingoffice.rules import Rules
from small_cards import raised
from small_offices import random_fact
from small_programs import RELEASE, STOP
from small_shops import HIGH, LOW, ROOM, make_shop, random_shop

A, CUT = ("goes", ("main", "+a")), ("goes", ("main", "+cut"))
NO_A = ("fails", ("main", "+a"))
ONCE = Rules(["release"], [[1], [1]], [(1, "release")])
PROGRAM = [("main", (), ("choose", (("do", "+a", RELEASE), RELEASE))), ("cut", (), ("do", "+cut", RELEASE)),
           ("dx", (("x", 0),), STOP)]


def parts(office):
    """All that can be read off an office and that desks change."""
    rules = office.rules
    return (office.binder.facts, office.waived, rules.events, rules.moves, rules.barred, list(office.program))


class Desks(unittest.TestCase):
    def setUp(self):
        self.office = make_shop(PROGRAM)
        self.desk = Desk(self.office)

    def keeps(self, error, fields, action, *args, **more):
        """The call raises the error, and the desk keeps its office."""
        before = self.desk.office
        self.assertEqual(raised(action, *args, **more), (error, fields))
        self.assertIs(self.desk.office, before)

    def test_at_first(self):
        self.assertIs(self.desk.office, self.office)

    def test_see(self):
        self.assertIsNone(self.desk.see(A))
        self.assertIsNone(self.desk.see(CUT))
        self.assertEqual(self.desk.office.binder.facts, [A, CUT])
        self.assertEqual(self.office.binder.facts, [])
        self.assertEqual(self.desk.ask("main", "main"), "cleared")

    def test_see_errors(self):
        self.desk.see(A)
        for fact in [(), ("goes",), ("goes", ()), ("none", ("main",)), ("alike", ("main",)), ("goes", ("main", "a"))]:
            self.keeps(BadFact, {"at": 0}, self.desk.see, fact)
        self.keeps(UnknownStart, {"name": "z"}, self.desk.see, ("goes", ("z", "+no")))
        self.keeps(UnknownChange, {"name": "no"}, self.desk.see, ("goes", ("main", "+no")))
        self.keeps(NoStore, {"at": 1, "by": 1}, self.desk.see, NO_A)
        self.keeps(NoStore, {"at": 1, "by": None}, self.desk.see, ("goes", ("main", "-cut")))

    def test_waive(self):
        self.assertIsNone(self.desk.waive(LOW))
        self.assertIsNone(self.desk.waive(HIGH))
        self.assertIsNone(self.desk.waive(LOW))
        self.assertEqual((self.desk.office.waived, self.office.waived), ([LOW, HIGH, LOW], []))
        self.keeps(BadLimit, {"limit": ("reach",)}, self.desk.waive, ("reach",))
        self.keeps(UnknownName, {"name": "q"}, self.desk.waive, ("reach", "p", "q", (0, ())))

    def test_bind(self):
        self.assertIsNone(self.desk.bind(ONCE))
        self.assertEqual(self.desk.office.rules, ONCE)
        sign = Rules(["sign"], [[1], [1]], [(1, "sign")])
        self.desk.bind(sign)
        self.assertEqual((self.desk.office.rules, self.desk.office.rules.events), (ONCE & sign, ["release", "sign"]))
        self.assertEqual(self.office.rules.events, [])
        # An event that rules were bound for can be done from then on.
        self.desk.teach([("new", (), ("do", "sign", STOP))])
        self.assertEqual(self.desk.ask("new", "main"), "cleared")

    def test_teach(self):
        self.assertIsNone(self.desk.teach([("one", (), ("call", "two", ())), ("two", (), ("call", "main", ()))]))
        self.assertEqual(self.desk.office.program.names, ["main", "cut", "dx", "one", "two"])
        self.assertEqual(self.office.program.names, ["main", "cut", "dx"])
        self.keeps(DuplicateName, {"name": "one"}, self.desk.teach, [("three", (), STOP), ("one", (), STOP)])
        self.keeps(UnknownName, {"name": "no"}, self.desk.teach, [("three", (), ("call", "no", ()))])
        self.keeps(UnknownEvent, {"event": "sign"}, self.desk.teach, [("three", (), ("do", "sign", STOP))])

    def test_ask(self):
        desk = self.desk
        self.assertEqual(desk.ask("main", "main"), "refused")
        self.assertEqual(desk.ask("main", "main", facts=[A]), "cleared")
        self.assertEqual(desk.ask("main", "main", facts=[NO_A]), "doomed")
        self.assertEqual(desk.ask("cut", "main", facts=[CUT]), "doomed")
        self.assertEqual(desk.ask("cut", "main", facts=(CUT, A), waived=[LOW]), "cleared")
        none = Rules(["release", "+cut"], [[0, 0]], [(0, "release")])
        self.assertEqual(desk.ask("cut", "main", facts=[CUT], rules=none), "cleared")
        self.assertEqual(desk.ask("main", "main", rules=none), "refused")
        self.assertIs(desk.office, self.office)

    def test_ask_errors(self):
        ask = self.desk.ask
        self.keeps(UnknownStart, {"name": "z"}, ask, "no", "z")
        self.keeps(UnknownName, {"name": "no"}, ask, "no", "main")
        self.keeps(NeedsArguments, {"name": "dx"}, ask, "dx", "main")
        # What is supposed comes first, the facts one after the other, then the limits.
        self.keeps(BadFact, {"at": 0}, ask, "no", "z", facts=[A, ()], waived=[()])
        self.keeps(NoStore, {"at": 1, "by": 1}, ask, "no", "z", facts=[A, NO_A, ()])
        self.keeps(NoStore, {"at": 1, "by": 0}, ask, "no", "z", facts=[NO_A, A, ()])
        self.keeps(BadLimit, {"limit": ()}, ask, "no", "z", facts=[A, CUT], waived=[LOW, ()])
        self.assertRaises(TypeError, ask, "main", "main", [A])


class Blocks(unittest.TestCase):
    def setUp(self):
        self.office = make_shop(PROGRAM)
        self.desk = Desk(self.office)

    def test_a_block(self):
        with Supposing(self.desk, facts=[A, CUT], waived=[LOW, ROOM], rules=ONCE) as held:
            self.assertIs(held, self.desk)
            self.assertEqual(parts(self.desk.office), ([A, CUT], [LOW, ROOM], *parts(self.desk.office)[2:]))
            self.assertEqual(self.desk.office.rules, ONCE)
            self.assertEqual(self.desk.ask("cut", "main"), "cleared")
        self.assertIs(self.desk.office, self.office)
        with Supposing(self.desk):
            self.assertEqual(parts(self.desk.office), parts(self.office))
        self.assertIs(self.desk.office, self.office)

    def test_deeds_in_a_block_are_gone_behind_it(self):
        with Supposing(self.desk, facts=[A]) as held:
            held.see(CUT)
            held.waive(LOW)
            held.bind(ONCE)
            held.teach([("new", (), STOP)])
            self.assertEqual((held.office.binder.facts, held.office.waived), ([A, CUT], [LOW]))
        self.assertIs(self.desk.office, self.office)

    def test_nested_blocks(self):
        with Supposing(self.desk, facts=[A]):
            outer = self.desk.office
            with Supposing(self.desk, facts=[CUT], waived=[LOW]):
                self.assertEqual((self.desk.office.binder.facts, self.desk.office.waived), ([A, CUT], [LOW]))
                self.assertEqual(self.desk.ask("cut", "main"), "cleared")
                with Supposing(self.desk, waived=[LOW]):
                    self.assertEqual(self.desk.office.waived, [LOW, LOW])
            self.assertIs(self.desk.office, outer)
            self.desk.waive(HIGH)
            later = self.desk.office
            with Supposing(self.desk, waived=[LOW]):
                self.assertEqual(self.desk.office.waived, [HIGH, LOW])
            self.assertIs(self.desk.office, later)
        self.assertIs(self.desk.office, self.office)

    def test_a_block_that_is_left_by_an_error_or_a_return(self):
        def leave(error):
            with Supposing(self.desk, facts=[A]):
                self.desk.waive(LOW)
                if error:
                    raise KeyError("out")
                return self.desk.office.waived

        self.assertEqual(leave(False), [LOW])
        self.assertRaises(KeyError, leave, True)
        self.assertIs(self.desk.office, self.office)
        for _ in range(3):
            with Supposing(self.desk, facts=[A]):
                break
        self.assertIs(self.desk.office, self.office)
        with self.assertRaises(NoStore):
            with Supposing(self.desk, facts=[A]):
                self.desk.see(NO_A)
        self.assertIs(self.desk.office, self.office)

    def test_an_error_on_entering(self):
        self.desk.waive(LOW)
        before, entered = self.desk.office, []
        for more, error, fields in [({"facts": [A, NO_A, ()], "waived": [()]}, NoStore, {"at": 1, "by": 1}),
                                    ({"facts": [A, ()], "waived": [()]}, BadFact, {"at": 0}),
                                    ({"facts": [A], "waived": [LOW, (), ("reach",)]}, BadLimit, {"limit": ()})]:
            def enter():
                with Supposing(self.desk, **more):
                    entered.append(more)
            self.assertEqual(raised(enter), (error, fields))
            self.assertIs(self.desk.office, before)
        self.assertEqual(entered, [])

    def test_an_object_that_is_entered_twice(self):
        block = Supposing(self.desk, facts=[A])
        with block:
            self.assertEqual(self.desk.office.binder.facts, [A])
        self.desk.see(CUT)
        later = self.desk.office
        with block:
            self.assertEqual(self.desk.office.binder.facts, [CUT, A])
        self.assertIs(self.desk.office, later)
        # What could not be entered can be entered later.
        block = Supposing(self.desk, facts=[NO_A])
        with Supposing(self.desk, facts=[A]):
            self.assertEqual(raised(block.__enter__)[0], NoStore)
        with block:
            self.assertEqual(self.desk.office.binder.facts, [CUT, NO_A])
        self.assertIs(self.desk.office, later)

    def test_lists_are_copied(self):
        facts, waived = [A], [LOW]
        block = Supposing(self.desk, facts=facts, waived=waived)
        facts.append(NO_A)
        waived.clear()
        with block:
            self.assertEqual((self.desk.office.binder.facts, self.desk.office.waived), ([A], [LOW]))
        with Supposing(self.desk, facts=(A,), waived=(LOW,)):
            self.assertEqual((self.desk.office.binder.facts, self.desk.office.waived), ([A], [LOW]))

    def test_other_desks_stay(self):
        other = Desk(self.office)
        with Supposing(self.desk, facts=[A]):
            self.assertIs(other.office, self.office)

    def test_held_against_offices_that_are_built(self):
        answers = {}
        for seed in range(250):
            office = random_shop(seed)
            if office is None or "mode" in repr(list(office.program)):
                continue
            chance = random.Random(seed)
            desk = Desk(office)
            facts, waived, rules, program = office.binder.facts, office.waived, office.rules, list(office.program)
            for at in range(chance.randint(1, 4)):
                deed = chance.choice(["see", "waive", "bind", "teach"])
                fact, more = random_fact(chance, ["main"], ["a", "cut"], 2), Rules(["+a"], [[1], [1]], [(1, "+a")])
                if deed == "see":
                    try:
                        Binder(office.binder.drawings, office.binder.changes, facts + [fact])
                    except ValueError:
                        self.assertEqual(raised(desk.see, fact)[0], NoStore)
                        continue
                    facts = facts + [fact]
                    desk.see(fact)
                elif deed == "waive":
                    waived = waived + [chance.choice([LOW, HIGH, ROOM])]
                    desk.waive(waived[-1])
                elif deed == "bind":
                    rules = rules & more
                    desk.bind(more)
                else:
                    program = program + [("t" + str(at), (), ("do", "+a", ("call", "d0", ())))]
                    desk.teach(program[-1:])
            built = Office(route=office.route, stock=office.stock, rules=rules, waived=waived, program=Program(program),
                           binder=Binder(office.binder.drawings, office.binder.changes, facts))
            for name in [name for name, params, _ in program if not params]:
                told = verdict(built, name, "main")
                self.assertEqual(desk.ask(name, "main"), told)
                answers[told] = answers.get(told, 0) + 1
            supposed = Office(route=office.route, stock=office.stock, rules=rules & ONCE, waived=waived + [LOW],
                              program=Program(program), binder=built.binder + [("goes", ("main",))])
            more = {"facts": [("goes", ("main",))], "waived": [LOW], "rules": ONCE}
            self.assertEqual(desk.ask("d0", "main", **more), verdict(supposed, "d0", "main"))
            with Supposing(desk, **more):
                self.assertEqual(desk.ask("d0", "main"), verdict(supposed, "d0", "main"))
                self.assertEqual(parts(desk.office), parts(supposed))
            self.assertEqual(parts(desk.office), parts(built))
        self.assertGreater(min(answers.values()), 20, answers)
        self.assertEqual(len(answers), 3)


if __name__ == "__main__":
    unittest.main()
