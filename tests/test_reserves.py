"""Point 74: how far measures can be widened, how late a step can come, and which limits must be waived."""

import itertools
import random
import unittest

from drawingoffice.binders import Binder
from drawingoffice.changes import Change
from drawingoffice.clearing import cleared
from drawingoffice.errors import NeedsArguments, NotCleared, UnknownName, UnknownStart
from drawingoffice.reserves import fewest_waivers, latest_release, widest_release
from drawingoffice.routes import Route
from drawingoffice.sheets import Sheet
from small_cards import raised
from small_programs import RELEASE, STOP, make_office
from small_shops import HIGH, LOW, M, P, ROOM, STOCK, make_shop, random_shop

CUT = ("goes", ("main", "+cut"))
MAIN = [("main", (), RELEASE)]
BOTH = [("main", (), ("choose", (RELEASE, ("do", "+cut", RELEASE))))]


def widened(office, by):
    return office.replaced(route=office.route.widened(by=by))


class Widest(unittest.TestCase):
    def check(self, office, expected, name="main"):
        told = widest_release(office, name, "main")
        self.assertEqual(told, expected)
        if told is None:
            self.assertTrue(cleared(widened(office, 10 ** 30), name, "main"))
            return
        for by in [0, told // 2, told]:
            self.assertTrue(cleared(widened(office, by), name, "main"))
        for by in [told + 1, told + 2, 10 * told + 9]:
            self.assertFalse(cleared(widened(office, by), name, "main"))

    def test_room(self):
        # Places from 5 + m to 9 - m, for m from 0 to 2: the measure known, or not.
        self.check(make_shop(MAIN, steps=[M, P]), 0)
        far = ("reach", "p", "frame", (90, (("m", -1),)))
        office = make_shop(MAIN, steps=[P, M], changes={})
        for steps, expected in [([M, P], 40), ([P, M], 40)]:
            wide = office.replaced(route=Route(steps), binder=Binder({"main": Sheet([far, ROOM])}, {}, []))
            self.check(wide, expected)
        other = ("reach", "p", "frame", (90, (("m", 1),)))
        # With equal multiples the measure does not matter where it is known.
        for steps, expected in [([M, P], None), ([P, M], 41)]:
            wide = office.replaced(route=Route(steps), binder=Binder({"main": Sheet([other, ROOM])}, {}, []))
            self.check(wide, expected)

    def test_without_measures_and_without_releases(self):
        route = Route([P, ("late", "t", ((), ()))])
        office = make_office(MAIN, route=route, drawings={"main": Sheet([LOW])})
        self.check(office, None)
        self.check(make_shop([("main", (), STOP)]), None)
        self.check(make_shop(MAIN, waived=[HIGH, ROOM]), None)

    def test_the_least_margin_of_all_releases_counts(self):
        wide, far = ("reach", "p", "frame", (30, (("m", -1),))), ("reach", "p", "frame", (20, (("m", -1),)))
        binder = Binder({"main": Sheet([wide, ROOM])}, {"up": Change([], [far])}, [("goes", ("main", "+up"))])
        program = MAIN + [("both", (), ("choose", (RELEASE, ("do", "+up", RELEASE))))]
        office = make_office(program, route=Route([M, P]), stock=STOCK, drawings=binder.drawings,
                             changes=binder.changes, facts=binder.facts)
        self.check(office, 10)
        self.check(office, 5, "both")

    def test_errors_in_order(self):
        office = make_shop(BOTH + [("dx", (("x", 0),), STOP)], facts=[CUT])
        self.assertEqual(raised(widest_release, office, "none", "no"), (UnknownStart, {"name": "no"}))
        self.assertEqual(raised(widest_release, office, "none", "main"), (UnknownName, {"name": "none"}))
        self.assertEqual(raised(widest_release, office, "dx", "main"), (NeedsArguments, {"name": "dx"}))
        self.assertEqual(raised(widest_release, office, "main", "main"), (NotCleared, {}))

    def test_held_against_trying(self):
        found = set()
        for seed in range(400):
            office = random_shop(seed)
            if office is not None and cleared(office, "d0", "main"):
                told = widest_release(office, "d0", "main")
                found.add(told)
                self.check(office, told, "d0")
        self.assertLessEqual({None, 0}, found)


class Latest(unittest.TestCase):
    def check(self, office, step, name="main"):
        told = latest_release(office, name, "main", step=step)
        goes = [to for to in range(len(office.route.steps))
                if cleared(office.replaced(route=office.route.moved(step, to=to)), name, "main")]
        self.assertEqual(told, max(goes))
        return told

    def test_measures(self):
        side = ("room", "q", "p", "", (0, (("m", 1),)))
        near = ("reach", "q", "p", (0, (("m", 1),)))
        far = ("reach", "q", "p", (9, (("m", 1),)))
        for limits, expected in [([side, near], 1), ([side, far], 2), ([], 2)]:
            office = make_office(MAIN, route=Route([M, P, ("part", "q")]), drawings={"main": Sheet(limits)})
            self.assertEqual(self.check(office, "m"), expected)

    def test_late_steps(self):
        # A place from 3 to 6 at first, and from 8 on behind the late revision.
        low, high, more = ("reach", "p", "frame", (6, ())), ("room", "p", "frame", "", (3, ())), ("room", "p", "frame", "", (8, ()))
        late, other = ("late", "t", ((), ("+up",))), ("late", "s", (("+b",), ("-b", "+b")))
        drawings = {"main": Sheet([low, high])}
        changes, facts = {"up": Change([low], [more]), "b": Change()}, [("goes", ("main", "+up"))]
        office = make_office(MAIN, route=Route([late, P]), drawings=drawings, changes=changes, facts=facts)
        self.assertEqual(self.check(office, "t"), 0)
        # Only in one order of the late steps their runs go.
        facts = [("goes", ("main", "+b", "-b", "+up")), ("goes", ("main", "+b", "+up")), ("goes", ("main", "-b", "+b", "+up"))]
        route = Route([other, late, P])
        office = make_office(MAIN, route=route, drawings=drawings, changes=changes, facts=facts)
        self.assertEqual(self.check(office, "t"), 1)
        self.assertEqual(self.check(office, "s"), 0)

    def test_errors_in_order(self):
        office = make_shop(BOTH + [("dx", (("x", 0),), STOP), ("good", (), STOP)], facts=[CUT])
        for step in ["m", "none"]:
            self.assertEqual(raised(latest_release, office, "no", "no", step=step), (UnknownStart, {"name": "no"}))
            self.assertEqual(raised(latest_release, office, "no", "main", step=step), (UnknownName, {"name": "no"}))
            self.assertEqual(raised(latest_release, office, "dx", "main", step=step), (NeedsArguments, {"name": "dx"}))
        for step in ["none", "p", "frame", "+a"]:
            self.assertEqual(raised(latest_release, office, "main", "main", step=step), (UnknownName, {"name": step}))
            self.assertEqual(raised(latest_release, office, "good", "main", step=step), (UnknownName, {"name": step}))
        self.assertEqual(raised(latest_release, office, "main", "main", step="m"), (NotCleared, {}))
        self.assertRaises(TypeError, latest_release, office, "good", "main", "m")

    def test_held_against_trying(self):
        found = {}
        for seed in range(400):
            office = random_shop(seed)
            if office is not None and cleared(office, "d0", "main"):
                for step in office.route.steps:
                    if step[0] != "part":
                        told = self.check(office, step[1], "d0")
                        found[told] = found.get(told, 0) + 1
        self.assertGreater(min(found.get(to, 0) for to in [1, 2]), 20, found)


class Waivers(unittest.TestCase):
    def check(self, office, expected, name="main"):
        told = fewest_waivers(office, name, "main")
        self.assertEqual(told, expected)
        return told

    def by_hand(self, office, name):
        """The first one of the shortest lists that clear the office, by trying one list after the other."""
        binder = office.binder
        limits = {limit for sheet in binder.drawings.values() for limit in sheet}
        limits |= {limit for change in binder.changes.values() for limit in change.touched}
        limits = sorted(limits - set(office.waived))
        for size in range(len(limits) + 1):
            for some in itertools.combinations(limits, size):
                if cleared(office.replaced(waived=office.waived + list(some)), name, "main"):
                    return list(some)
        return None

    def test_cleared(self):
        self.check(make_shop(MAIN), [])
        self.check(make_shop([("main", (), STOP)]), [])

    def test_one_limit(self):
        self.check(make_shop(BOTH, facts=[CUT]), [LOW])
        self.check(make_shop(BOTH, facts=[CUT], waived=[LOW, LOW]), [])
        self.check(make_shop(BOTH, facts=[CUT], waived=[ROOM]), [])

    def test_several_lists_of_the_same_length(self):
        def reach(part, most):
            return ("reach", part, "frame", (most, ()))

        def room(part, least):
            return ("room", part, "frame", "", (least, ()))

        office = make_office(MAIN, route=Route([P, ("part", "q")]), drawings={"main": Sheet(
            [reach("p", 1), room("p", 2), reach("q", 1), room("q", 2)])})
        self.check(office, [reach("p", 1), reach("q", 1)])
        # Two limits from below stand against one from above, so this one is waived.
        office = make_office(MAIN, drawings={"main": Sheet([reach("p", 1), room("p", 2), room("p", 3)])})
        self.check(office, [reach("p", 1)])
        office = make_office(MAIN, drawings={"main": Sheet([reach("p", 0), reach("p", 1), room("p", 2)])})
        self.check(office, [room("p", 2)])
        many = [reach("p", at) for at in range(3)] + [room("p", at) for at in range(1, 4)]
        office = make_office(MAIN, drawings={"main": Sheet(many)})
        self.check(office, self.by_hand(office, "main"))

    def test_no_limits_are_enough(self):
        body = ("choose", (("do", "+a", STOP), ("do", "+cut", RELEASE)))
        self.check(make_shop([("main", (), body)], facts=[CUT]), None)
        steps = [P, M, ("late", "t", (("+cut",), ("+a",)))]
        self.check(make_shop(MAIN, facts=[CUT], steps=steps), None)
        # The step behind the release is reached only where the release is right.
        body = ("do", "+cut", ("do", "release", ("do", "+a", STOP)))
        self.check(make_shop([("main", (), body)], facts=[CUT]), None)

    def test_late_steps(self):
        steps = [P, M, ("late", "t", (("+cut",), ()))]
        office = make_shop(MAIN, facts=[CUT], steps=steps)
        self.check(office, self.by_hand(office, "main"))
        self.assertEqual(len(self.by_hand(office, "main")), 1)

    def test_errors_in_order(self):
        office = make_shop(BOTH + [("dx", (("x", 0),), STOP)], facts=[CUT])
        self.assertEqual(raised(fewest_waivers, office, "none", "no"), (UnknownStart, {"name": "no"}))
        self.assertEqual(raised(fewest_waivers, office, "none", "main"), (UnknownName, {"name": "none"}))
        self.assertEqual(raised(fewest_waivers, office, "dx", "main"), (NeedsArguments, {"name": "dx"}))

    def test_held_against_trying(self):
        found = {}
        for seed in range(500):
            office = random_shop(seed)
            if office is not None:
                told = self.check(office, self.by_hand(office, "d0"), "d0")
                size = None if told is None else len(told)
                found[size] = found.get(size, 0) + 1
        self.assertGreater(min(found.get(size, 0) for size in [None, 0, 1]), 4, found)

    def test_held_against_trying_where_many_limits_clash(self):
        sizes = set()
        for seed in range(80):
            chance = random.Random(seed)
            limits = [("reach", upper, lower, (chance.randint(-2, 3), ())) for upper, lower in
                      [chance.sample(["p", "q", "frame"], 2) for _ in range(chance.randint(3, 7))]]
            office = make_office(MAIN, route=Route([P, ("part", "q")]), drawings={"main": Sheet(limits)})
            told = self.check(office, self.by_hand(office, "main"))
            sizes.add(len(told))
        self.assertLessEqual({0, 1, 2}, sizes)

    def test_what_is_returned_is_new(self):
        office = make_shop(BOTH, facts=[CUT])
        fewest_waivers(office, "main", "main").clear()
        self.check(office, [LOW])
        self.assertEqual(office.waived, [])


if __name__ == "__main__":
    unittest.main()
