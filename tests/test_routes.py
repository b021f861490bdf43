"""Point 55: routes."""

import itertools
import unittest

from drawingoffice.errors import BadEnds, BadName, BadPosition, BadWidening, NameTaken, UnknownName
from drawingoffice.routes import Route
from small_cards import raised

GREAT = 10 ** 60 - 1
M, N, P, Q = ("measure", "m", 0, 4), ("measure", "n", -3, -3), ("part", "p"), ("part", "q")
ONE = ("late", "t", (("+a", "-b"),))
THREE = ("late", "u", ((), ("+a",), ("-b", "+c", "+c", "-a")))
STEPS = [M, ONE, P, THREE, N, Q]


class Making(unittest.TestCase):
    def test_steps(self):
        self.assertEqual(Route(STEPS).steps, STEPS)
        self.assertEqual(Route(tuple(STEPS)).steps, STEPS)
        self.assertEqual(Route([]).steps, [])

    def test_copies(self):
        steps = list(STEPS)
        route = Route(steps)
        steps.clear()
        route.steps.clear()
        self.assertEqual(route.steps, STEPS)

    def test_bad_names(self):
        for name in ["", "frame", "M", "1m", "a b", "a234567890123", "+a"]:
            for step in [("measure", name, 5, 1), ("late", name, ((),)), ("part", name)]:
                self.assertEqual(raised(Route, [M, step, M]), (BadName, {"name": name}))

    def test_names_that_are_taken(self):
        for first, second in itertools.product([M, ("late", "m", ((),)), ("part", "m")], repeat=2):
            self.assertEqual(raised(Route, [first, P, second]), (NameTaken, {"name": "m"}))
        self.assertEqual(raised(Route, [M, ("measure", "m", 3, 2)]), (NameTaken, {"name": "m"}))

    def test_bad_ends(self):
        self.assertEqual(raised(Route, [P, ("measure", "m", 3, 2), P]), (BadEnds, {"low": 3, "high": 2}))
        self.assertEqual(raised(Route, [("measure", "m", GREAT, -GREAT)]), (BadEnds, {"low": GREAT, "high": -GREAT}))

    def test_one_step_after_the_other(self):
        steps = [("measure", "m", 3, 2), ("part", "frame"), ("part", "m")]
        self.assertEqual(raised(Route, steps)[0], BadEnds)
        self.assertEqual(raised(Route, steps[1:])[0], BadName)
        self.assertEqual(raised(Route, [M, ("part", "m"), ("part", "")]), (NameTaken, {"name": "m"}))


class Widened(unittest.TestCase):
    def test_widened(self):
        route = Route(STEPS)
        told = route.widened(by=2)
        self.assertEqual(told.steps, [("measure", "m", -2, 6), ONE, P, THREE, ("measure", "n", -5, -1), Q])
        self.assertEqual(route.widened(by=0).steps, STEPS)
        self.assertEqual(route.widened(by=GREAT).steps[0], ("measure", "m", -GREAT, 4 + GREAT))
        self.assertEqual(route.steps, STEPS)

    def test_bad_widening(self):
        for by in (-1, -GREAT):
            self.assertEqual(raised(Route([]).widened, by=by), (BadWidening, {"by": by}))
        self.assertRaises(TypeError, Route([]).widened, 1)


class Moved(unittest.TestCase):
    def test_moved(self):
        route = Route(STEPS)
        for step in (M, ONE, THREE, N):
            others = [other for other in STEPS if other != step]
            for to in range(6):
                told = route.moved(step[1], to=to).steps
                self.assertEqual(told[to], step)
                self.assertEqual(told[:to] + told[to + 1:], others)
        self.assertEqual(route.steps, STEPS)

    def test_unknown_names_come_first(self):
        for name in ["p", "q", "none", "frame", "", "No Name"]:
            for to in (0, -1, 6):
                self.assertEqual(raised(Route(STEPS).moved, name, to=to), (UnknownName, {"name": name}))
        self.assertEqual(raised(Route([]).moved, "m", to=0), (UnknownName, {"name": "m"}))

    def test_positions_beside_the_ends(self):
        for to in (-1, 6, 7, -6):
            self.assertEqual(raised(Route(STEPS).moved, "m", to=to), (BadPosition, {"to": to}))
        self.assertRaises(TypeError, Route(STEPS).moved, "m", 1)


class LateRows(unittest.TestCase):
    def test_no_late_steps(self):
        for steps in ([], [M, P]):
            self.assertEqual(Route(steps).late_rows(), [()])
            self.assertEqual(Route(steps).late_run(()), ())

    def test_late_rows(self):
        self.assertEqual(Route([ONE]).late_rows(), [(0,)])
        self.assertEqual(Route([THREE]).late_rows(), [(0,), (1,), (2,)])
        self.assertEqual(Route(STEPS).late_rows(), [(0, 0), (0, 1), (0, 2)])
        self.assertEqual(Route([THREE, P, ONE]).late_rows(), [(0, 0), (1, 0), (2, 0)])

    def test_late_runs(self):
        route = Route(STEPS)
        self.assertEqual(route.late_run((0, 0)), ("+a", "-b"))
        self.assertEqual(route.late_run((0, 2)), ("+a", "-b", "-b", "+c", "+c", "-a"))
        self.assertEqual(Route([THREE, ONE]).late_run((1, 0)), ("+a", "+a", "-b"))
        self.assertEqual(Route([THREE]).late_run((0,)), ())

    def test_held_against_writing_all_rows_down(self):
        tables = [((),), (("+a",), ()), (("+a",), ("-a", "+b"), ("+c",) * 4)]
        for first, second in itertools.product(tables, repeat=2):
            route = Route([P, ("late", "z", first), M, ("late", "a", second)])
            rows = sorted((one, two) for one in range(len(first)) for two in range(len(second)))
            self.assertEqual(route.late_rows(), rows)
            for one, two in rows:
                self.assertEqual(route.late_run((one, two)), first[one] + second[two])

    def test_a_new_list(self):
        route = Route(STEPS)
        route.late_rows().clear()
        self.assertEqual(len(route.late_rows()), 3)


if __name__ == "__main__":
    unittest.main()
