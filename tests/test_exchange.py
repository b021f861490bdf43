"""Point 75: exchanging the stock."""

import random
import unittest

from drawingoffice.catalogs import Catalog
from drawingoffice.changes import Change
from drawingoffice.clearing import cleared
from drawingoffice.errors import BadBound, NoParting, TooManyRows, UnlikeCatalogs
from drawingoffice.exchange import eased, easing, parting_office
from drawingoffice.gains import excess
from drawingoffice.lists import Steps
from drawingoffice.programs import Program
from drawingoffice.routes import Route
from drawingoffice.sheets import Sheet
from drawingoffice.stocks import Stock
from small_cards import raised
from small_programs import RELEASE, STOP, make_office
from stacks import random_steps, texts

CATALOG = Catalog({"a": 3, "b": 1})


def stock(*steps, catalog=CATALOG):
    return Stock(catalog, Steps(steps))


def room(constant, stack="ab", lower="frame"):
    return ("room", "p", lower, stack, (constant, (("m", 2),)))


def reach(constant):
    return ("reach", "p", "frame", (constant, ()))


def random_stock(seed, catalog):
    """A small stock whose list rests."""
    chance = random.Random(seed)
    while True:
        steps = random_steps(chance, chance.randint(0, 2))
        try:
            return Stock(catalog, Steps(steps), most=200)
        except ValueError:
            continue


class Eased(unittest.TestCase):
    def sample(self):
        limits = [room(5), reach(9), ("room", "frame", "p", "", (0, ()))]
        changes = {"up": Change([room(1)], [room(2)], kept=[reach(1), room(3)], barred=[room(4)]), "void": Change.nowhere()}
        shows = ("choose", (("shows", room(5), STOP), ("call", "two", (("make", ("k",), ("shows", room(6), ("call", "k", ()))),
                                                                     ("use", "main")))))
        program = [("main", (), ("when", (0,), ("mode", (0,), ("do", "release", shows)))),
                   ("two", (("f", 1), ("x", 0)), ("shows", reach(2), ("call", "f", (("use", "x"),))))]
        return make_office(program, drawings={"main": Sheet(limits)}, changes=changes, facts=[("goes", ("main",))],
                           route=Route([("measure", "m", 0, 1), ("part", "p")]), stock=stock(),
                           waived=[room(7), reach(7), room(7)])

    def test_all_rooms_ask_for_less(self):
        office = self.sample()
        for by in [3, -2, 10 ** 61]:
            told = eased(office, by=by)
            self.assertEqual(list(told.binder.drawings["main"]),
                             sorted([room(5 - by), reach(9), ("room", "frame", "p", "", (-by, ()))]))
            change = told.binder.changes["up"]
            self.assertEqual((change.lost, change.gained, change.kept, change.barred),
                             ([room(1 - by)], [room(2 - by)], [reach(1), room(3 - by)], [room(4 - by)]))
            self.assertTrue(told.binder.changes["void"].is_void)
            self.assertEqual(told.waived, [room(7 - by), reach(7), room(7 - by)])
            shows = ("choose", (("shows", room(5 - by), STOP),
                                ("call", "two", (("make", ("k",), ("shows", room(6 - by), ("call", "k", ()))),
                                                 ("use", "main")))))
            self.assertEqual(told.program["main"], ("main", (), ("when", (0,), ("mode", (0,), ("do", "release", shows)))))
            self.assertEqual(told.program["two"], office.program["two"])
            self.assertEqual((told.route, told.stock, told.rules, told.binder.facts),
                             (office.route, office.stock, office.rules, [("goes", ("main",))]))

    def test_by_0_and_back(self):
        office = self.sample()

        def parts(one):
            return (list(one.binder.drawings["main"]), one.binder.changes["up"], list(one.program), one.waived)

        before = parts(office)
        self.assertEqual(parts(eased(office, by=0)), before)
        self.assertEqual(parts(eased(eased(office, by=7), by=-7)), before)
        self.assertEqual(parts(office), before)
        self.assertRaises(TypeError, eased, office, 3)

    def test_what_is_cleared_stays_so_if_rooms_ask_for_less(self):
        office = make_office([("main", (), RELEASE)], drawings={"main": Sheet([("room", "p", "frame", "aa", (4, ())), reach(6)])})
        self.assertFalse(cleared(office, "main", "main"))
        self.assertFalse(cleared(eased(office, by=1), "main", "main"))
        self.assertTrue(cleared(eased(office, by=2), "main", "main"))


class Easing(unittest.TestCase):
    def test_the_excess_of_the_resting_lists(self):
        first = stock(("squeeze", "b"))
        second = stock(("map", (("a", "ab"),)), ("replace", "ab", "b"))
        told = easing(first, second, most=60)
        other = excess(first.resting, second.resting, CATALOG, letters="ab", most=60)
        self.assertEqual((told.greatest, told.text, told.loop, told.table),
                         (other.greatest, other.text, other.loop, other.table))
        told = easing(stock(), stock(), most=5)
        self.assertEqual((told.greatest, told.text, told.loop), (0, "", None))
        self.assertIsNone(easing(stock(), stock(("squeeze", "a")), most=5).greatest)

    def test_errors_in_order(self):
        other = stock(catalog=Catalog({"a": 3, "b": 1, "c": 0}))
        for action, more in [(easing, {}), (parting_office, {"by": 0})]:
            self.assertEqual(raised(action, stock(), other, most=0, **more), (UnlikeCatalogs, {}))
            self.assertEqual(raised(action, stock(), stock(), most=0, **more), (BadBound, {"bound": 0}))
            many = stock(("squeeze", "a"))
            self.assertEqual(raised(action, many, stock(), most=1, **more), (TooManyRows, {"bound": 1}))
        self.assertEqual(raised(parting_office, stock(), stock(), by=0, most=9), (NoParting, {}))
        # Catalogs that are equal need not be the same object.
        self.assertEqual(easing(stock(), stock(catalog=Catalog({"b": 1, "a": 3})), most=9).greatest, 0)


class Parting(unittest.TestCase):
    def check(self, first, second, by, most=400):
        """Whether an office parts the two stocks; if one does, it is held against cleared."""
        told = easing(first, second, most=most)
        if told.greatest is not None and by >= told.greatest:
            self.assertEqual(raised(parting_office, first, second, by=by, most=most), (NoParting, {}))
            return False
        office = parting_office(first, second, by=by, most=most)
        self.assertIs(office.stock, second)
        self.assertTrue(cleared(office, "main", "main"))
        self.assertFalse(cleared(eased(office.replaced(stock=first), by=by), "main", "main"))
        return True

    def test_a_greatest_excess(self):
        first, second = stock(("squeeze", "a")), stock(("map", (("a", ""),)))
        one = Stock(Catalog({"a": 3}), Steps.of(("squeeze", "a"))), Stock(Catalog({"a": 3}), Steps.of(("map", (("a", ""),))))
        self.assertEqual(easing(*one, most=9).greatest, 3)
        for by, parts in [(-1000, True), (0, True), (2, True), (3, False), (4, False), (1000, False)]:
            self.assertEqual(self.check(*one, by), parts)
        # With a second letter between them the gains add up.
        for by in [-1000, -1, 0, 5, 999, 1000]:
            self.assertTrue(self.check(first, second, by))

    def test_equal_stocks(self):
        for by, parts in [(-1000, True), (-1, True), (0, False), (1000, False)]:
            self.assertEqual(self.check(stock(), stock(), by), parts)

    def test_the_empty_catalog(self):
        empty = Stock(Catalog({}), Steps([]))
        self.assertEqual([self.check(empty, empty, by) for by in [-1, 0]], [True, False])

    def test_negative_lengths(self):
        catalog = Catalog({"a": -1000, "b": 999})
        one, two = stock(("map", (("a", ""),)), catalog=catalog), stock(catalog=catalog)
        for by in [-1000, 0, 1000]:
            self.assertTrue(self.check(one, two, by))
            self.assertEqual(self.check(two, one, by), by < 0)

    def test_the_least_number_for_all_offices(self):
        # With the greatest excess whatever is cleared stays cleared; with one less it does not.
        found = {True: 0, False: 0}
        for seed in range(120):
            catalog = Catalog({"a": random.Random(seed).randint(-2, 3), "b": random.Random(-seed).randint(-2, 3)})
            first, second = random_stock(seed, catalog), random_stock(seed + 1000, catalog)
            greatest = easing(first, second, most=400).greatest
            found[greatest is None] += 1
            if greatest is None:
                for by in [-3, 0, 50]:
                    self.assertTrue(self.check(first, second, by))
                continue
            self.assertTrue(self.check(first, second, greatest - 1))
            self.assertFalse(self.check(first, second, greatest))
            for stack in list(texts("ab", 4)):
                limits = [("room", "p", "frame", stack, (0, ())), reach(second.length(stack))]
                office = make_office([("main", (), RELEASE)], drawings={"main": Sheet(limits)}, stock=second)
                self.assertTrue(cleared(office, "main", "main"))
                self.assertTrue(cleared(eased(office.replaced(stock=first), by=greatest), "main", "main"))
        self.assertGreater(min(found.values()), 20, found)

    def test_the_parts_of_the_office(self):
        office = parting_office(stock(), stock(), by=-1, most=9)
        self.assertEqual((office.program.names, list(office.binder.drawings), office.waived), (["main"], ["main"], []))
        self.assertIsInstance(office.program, Program)


if __name__ == "__main__":
    unittest.main()
