"""Point 60: offices."""

import unittest

from drawingoffice.binders import Binder
from drawingoffice.catalogs import Catalog
from drawingoffice.changes import Change
from drawingoffice.errors import BadLimit, UnknownChange, UnknownEvent, UnknownLetter, UnknownName, UnknownState
from drawingoffice.lists import Steps
from drawingoffice.offices import Office
from drawingoffice.programs import Program
from drawingoffice.routes import Route
from drawingoffice.rules import Rules
from drawingoffice.sheets import Sheet
from drawingoffice.stocks import Stock
from small_cards import raised
from small_programs import RELEASE, STOP, make_office

ROUTE = Route([("measure", "m", 0, 2), ("part", "p"), ("late", "t", (("+fix",), ())), ("part", "q")])
STOCK = Stock(Catalog({"a": 2, "b": 0}), Steps([]))
RULES = Rules(["sign", "release", "+fix", "+other"], [[0, 1, 0, 0], [1, 1, 0, 0]], [])


def room(upper="p", lower="q", stack="ab", terms=()):
    return ("room", upper, lower, stack, (1, terms))


def reach(upper="p", lower="q", terms=()):
    return ("reach", upper, lower, (1, terms))


GOOD = room("q", "frame", "", (("m", 3),))


def parts(**more):
    told = {"route": ROUTE, "stock": STOCK, "binder": Binder({"main": Sheet([GOOD])}, {"fix": Change()}, []),
            "rules": RULES, "program": Program([("main", (), ("do", "sign", RELEASE))]), "waived": [GOOD]}
    return {**told, **more}


def binder(drawings=None, **changes):
    return Binder({"main": Sheet([])} if drawings is None else drawings, {"fix": Change(), **changes}, [])


def program(*bodies):
    return Program([("d" + str(at), (), body) for at, body in enumerate(bodies)])


class Offices(unittest.TestCase):
    def wrong(self, error, fields, **more):
        self.assertEqual(raised(Office, **parts(**more)), (error, fields))
        office = Office(**parts())
        self.assertEqual(raised(office.replaced, **more), (error, fields))

    def test_properties(self):
        told = parts(waived=[GOOD, reach(), GOOD])
        office = Office(**told)
        for name in ["route", "stock", "binder", "rules", "program"]:
            self.assertIs(getattr(office, name), told[name])
        self.assertEqual(office.waived, [GOOD, reach(), GOOD])
        self.assertEqual(make_office().waived, [])

    def test_keywords_only(self):
        told = parts()
        self.assertRaises(TypeError, Office, *told.values())

    def test_copies(self):
        waived = [GOOD]
        office = Office(**parts(waived=waived))
        waived.clear()
        office.waived.clear()
        self.assertEqual(office.waived, [GOOD])
        self.assertEqual(Office(**parts(waived=(GOOD,))).waived, [GOOD])

    def test_replaced(self):
        office = Office(**parts())
        more = {"route": Route(ROUTE.steps[::-1]), "stock": Stock(Catalog({"a": 1}), Steps([])),
                "binder": binder(), "rules": Rules(["sign"], [[0]], []), "program": program(STOP)}
        for name, value in more.items():
            changed = office.replaced(**{name: value})
            for other in more:
                self.assertIs(getattr(changed, other), value if other == name else getattr(office, other))
            self.assertEqual(changed.waived, [GOOD])
        self.assertEqual((office.replaced(waived=[]).waived, office.replaced(waived=()).waived), ([], []))
        self.assertEqual((office.replaced().waived, office.replaced(waived=[reach()]).waived), ([GOOD], [reach()]))
        both = office.replaced(program=program(STOP), waived=[])
        self.assertEqual((both.program.names, both.waived, both.route), (["d0"], [], office.route))
        self.assertEqual(office.waived, [GOOD])

    def test_a_limit_that_does_not_suit(self):
        cases = [(room("x", "y", "zz", (("n", 1),)), UnknownName, {"name": "x"}),
                 (room("p", "y", "zz", (("n", 1),)), UnknownName, {"name": "y"}),
                 (room("p", "q", "abzx", (("n", 1),)), UnknownLetter, {"char": "z"}),
                 (room("p", "q", "ab", (("m", 1), ("n", 1), ("o", 1))), UnknownName, {"name": "n"}),
                 (reach("x", "y"), UnknownName, {"name": "x"}), (reach("frame", "m"), UnknownName, {"name": "m"}),
                 (reach("t", "p"), UnknownName, {"name": "t"}),
                 (reach("p", "q", (("p", 1),)), UnknownName, {"name": "p"}),
                 (reach("p", "q", (("m", 1), ("t", 1))), UnknownName, {"name": "t"})]
        for limit, error, fields in cases:
            self.wrong(error, fields, binder=binder({"main": Sheet([limit])}))
            for words in [{"lost": [limit]}, {"gained": [limit]}, {"kept": [limit]}, {"barred": [limit]}]:
                self.wrong(error, fields, binder=binder(other=Change(**words)))
            self.wrong(error, fields, waived=[limit])

    def test_the_order_of_the_limits(self):
        def bad(name):
            return reach("frame", name)
        told = {"binder": binder({"b": Sheet([bad("x2"), bad("x3")]), "a": Sheet([bad("x1")])},
                                 z=Change([bad("x7")], [bad("x6")]), c=Change(kept=[bad("x4")], barred=[bad("x5")])),
                "waived": [bad("x9"), bad("x8"), ("reach",)], "program": program(("do", "no", STOP))}
        self.wrong(UnknownName, {"name": "x1"}, **told)
        for drawings, name in [({"b": Sheet([bad("x3"), bad("x2")])}, "x2"), ({}, "x4")]:
            told["binder"] = Binder(drawings, told["binder"].changes, [])
            self.wrong(UnknownName, {"name": name}, **told)
        told["binder"] = binder(z=Change([bad("x7")], [bad("x6")]))
        self.wrong(UnknownName, {"name": "x6"}, **told)
        told["binder"] = binder()
        self.wrong(UnknownName, {"name": "x9"}, **told)
        # One value after the other: what is no limit comes after what suits no step before it.
        told["waived"] = [GOOD, ("reach",), bad("x8")]
        self.wrong(BadLimit, {"limit": ("reach",)}, **told)
        told["waived"] = [bad("p"), bad("x8"), ()]
        self.wrong(UnknownName, {"name": "x8"}, **told)
        # Touched limits ascend over all four lists of a change.
        one, two, three = reach("frame", "x1"), room("frame", "x2"), reach("p", "x0")
        self.wrong(UnknownName, {"name": "x1"}, binder=binder(other=Change([two], [three], kept=[one])))

    def test_late_steps_name_revisions(self):
        late = Route([("part", "p"), ("part", "q"), ("late", "t", ((), ("+fix", "-new"))), ("measure", "m", 0, 1),
                      ("late", "u", (("+old",),))])
        self.wrong(UnknownChange, {"name": "new"}, route=late, program=program(("do", "no", STOP)))
        self.wrong(UnknownChange, {"name": "old"}, route=late, binder=binder(new=Change()))
        self.wrong(UnknownLetter, {"char": "z"}, route=late, waived=[room("p", "q", "z")])
        office = Office(**parts(route=late, binder=binder(new=Change(), old=Change())))
        self.assertIs(office.route, late)

    def test_events(self):
        for event in ["+fix", "-fix", "release", "sign"]:
            self.assertEqual(Office(**parts(program=program(("do", event, STOP)))).program.names, ["d0"])
        # A revision step among the events of the rules is no event unless there is such a revision.
        for event in ["+other", "-other", "fix", "no"]:
            self.wrong(UnknownEvent, {"event": event}, program=program(STOP, ("do", event, ("do", "none", STOP))))
        # The release is an event also if the rules do not list it, and a name only if they do.
        office = Office(**parts(rules=Rules([], [[]], []), program=program(RELEASE)))
        self.wrong(UnknownEvent, {"event": "sign"}, rules=Rules([], [[]], []))
        self.assertEqual(office.rules.events, [])

    def test_states_of_modes(self):
        for states in [(), (0,), (1, 0, 1)]:
            self.assertIsNotNone(Office(**parts(program=program(("mode", states, STOP)))))
        for states, state in [((0, 2), 2), ((-1, 2), -1), ((1, 12, 5), 12)]:
            self.wrong(UnknownState, {"state": state}, program=program(("mode", states, ("do", "no", STOP))))

    def test_states_of_a_when_are_not_asked(self):
        self.assertIsNotNone(Office(**parts(program=program(("when", (-4, 900), STOP)))))

    def test_shown_limits(self):
        # Only its form is asked of such a limit.
        self.assertIsNotNone(Office(**parts(program=program(("shows", reach("x", "y"), STOP)))))
        for value in [(), ("reach",), ("room", "p", "p", "", (0, ())), ("none", 1)]:
            self.wrong(BadLimit, {"limit": value}, program=program(("shows", value, ("do", "no", STOP))))

    def test_the_program_is_gone_through_in_order(self):
        no, far, bad = ("do", "no", STOP), ("mode", (7,), STOP), ("shows", (), STOP)
        cases = [(no, UnknownEvent, {"event": "no"}), (far, UnknownState, {"state": 7}), (bad, BadLimit, {"limit": ()})]
        for first, error, fields in cases:
            for second, _, _ in cases:
                for body in [("choose", (STOP, first, second)), ("do", "sign", ("choose", (first, second))),
                             ("call", "two", (("make", (), first), ("make", (), second))),
                             ("call", "two", (("use", "x"), ("make", (), ("when", (9,), first))))]:
                    told = Program([("two", (("x", 0), ("y", 0)), body), ("main", (), second)])
                    self.wrong(error, fields, program=told)
        self.wrong(UnknownState, {"state": 7}, program=program(("do", "sign", far), no))


if __name__ == "__main__":
    unittest.main()
