"""Point 61: the cards of releases."""

import itertools
import random
import unittest

from drawingoffice.binders import Binder
from drawingoffice.catalogs import Catalog
from drawingoffice.changes import Change
from drawingoffice.errors import BadRun, LateFails, RunFails, UnknownChange, UnknownStart
from drawingoffice.forms import Form, measured
from drawingoffice.lists import Steps
from drawingoffice.players import sure
from drawingoffice.releases import release_card
from drawingoffice.routes import Route
from drawingoffice.sheets import Sheet
from drawingoffice.stocks import Stock
from small_cards import raised
from small_offices import end_by_hand, limits_behind
from small_programs import make_office

LOW = ("reach", "p", "frame", (3, ()))
HIGH = ("reach", "p", "frame", (7, (("m", -1),)))
ROOM = ("room", "p", "frame", "aab", (1, (("m", 2), ("n", -1))))
SIDE = ("room", "q", "p", "", (0, ()))
M, N, P, Q = ("measure", "m", 0, 2), ("measure", "n", -1, 1), ("part", "p"), ("part", "q")
STOCK = Stock(Catalog({"a": 2, "b": -1}), Steps([("squeeze", "a")]))
CHANGES = {"cut": Change([HIGH], [LOW]), "add": Change([], [SIDE]), "none": Change()}
FACTS = [("goes", ("main", "+cut", "+add")), ("goes", ("main", "+add", "+cut")),
         ("alike", ("main", "+add", "+cut"), ("main", "+cut", "+add")), ("alike", ("main", "+none"), ("main",))]


def late(name, *options):
    return ("late", name, tuple(tuple(option.split()) for option in options))


def shop(steps, *, waived=(), drawings=None, changes=None, facts=None):
    drawings = {"main": Sheet([HIGH, ROOM])} if drawings is None else drawings
    return make_office(route=Route(steps), stock=STOCK, waived=waived, drawings=drawings,
                       changes=CHANGES if changes is None else changes, facts=FACTS if facts is None else facts)


def rows_of(office):
    lates = [step for step in office.route.steps if step[0] == "late"]
    return list(itertools.product(*[range(len(step[2])) for step in lates])), lates


def acts_by_hand(office, run):
    """The acts of the card of the release, step by step and rule by rule; a late row whose run does not go."""
    binder = office.binder
    rows, lates = rows_of(office)
    finals = []
    for row in rows:
        after = run + tuple(step for place, option in zip(lates, row) for step in place[2][option])
        if end_by_hand(binder.store, after) is None:
            return row
        finals.append(limits_behind(binder.drawings[run[0]], binder.changes, after[1:]))
    acts = [("turn", step[1], len(step[2])) if step[0] == "late" else step for step in office.route.steps]
    ends = {step[1]: step for step in office.route.steps if step[0] == "measure"}
    for limit in sorted(set().union(*finals)):
        if limit in office.waived:
            continue
        constant, terms = limit[-1]
        form = Form(constant)
        for name, times in terms:
            form = form + measured(name, low=ends[name][2], high=ends[name][3]) * times
        if limit[0] == "room":
            rule = ("rule", limit[1], limit[2], form + office.stock.length(limit[3]))
        else:
            rule = ("rule", limit[2], limit[1], -form)
        if all(limit in final for final in finals):
            acts.append(rule + ((),))
            continue
        for row, final in zip(rows, finals):
            if limit in final:
                acts.append(rule + (tuple(sorted((place[1], option) for place, option in zip(lates, row))),))
    return acts


class Releases(unittest.TestCase):
    def check(self, office, run=("main",)):
        expected = acts_by_hand(office, run)
        if isinstance(expected, tuple):
            self.assertEqual(raised(release_card, office, run), (LateFails, {"row": expected}))
            return None
        card = release_card(office, run)
        self.assertEqual(card.acts, expected)
        return card

    def test_without_late_steps(self):
        card = self.check(shop([M, P, N, Q]))
        m, n = measured("m", low=0, high=2), measured("n", low=-1, high=1)
        self.assertEqual(card.acts, [M, P, N, Q, ("rule", "frame", "p", m - 7, ()),
                                     ("rule", "p", "frame", 2 * m - n + 2, ())])
        card = self.check(shop([M, P, N, Q]), ("main", "+cut", "+add"))
        self.assertEqual([rule[:2] for rule in card.rules], [("frame", "p"), ("p", "frame"), ("q", "p")])
        self.assertEqual(card.rules[0], ("frame", "p", Form(-3), ()))
        self.check(shop([M, N, P, Q]), ("main", "+none", "+cut", "-cut", "+none"))

    def test_no_rules(self):
        self.assertEqual(self.check(shop([P], drawings={"main": Sheet([])}, changes={}, facts=[])).acts, [P])
        self.assertEqual(self.check(shop([], drawings={"main": Sheet([])}, changes={}, facts=[])).acts, [])

    def test_one_late_step(self):
        card = self.check(shop([M, late("t", "+cut", "", "+add"), N, P, Q]))
        self.assertEqual(card.steps, [M, ("turn", "t", 3), N, P, Q])
        self.assertEqual([(rule[:2], rule[3]) for rule in card.rules],
                         [(("frame", "p"), (("t", 0),)), (("frame", "p"), (("t", 1),)), (("frame", "p"), (("t", 2),)),
                          (("p", "frame"), ()), (("q", "p"), (("t", 2),))])
        self.check(shop([late("t", ""), M, N, P, Q]))
        self.check(shop([late("t", "+cut"), M, N, P, Q]))

    def test_two_late_steps_whose_names_do_not_ascend(self):
        card = self.check(shop([M, late("u", "", "+add"), P, N, late("t", "+cut", "", ""), Q]))
        self.assertEqual(card.steps, [M, ("turn", "u", 2), P, N, ("turn", "t", 3), Q])
        self.assertEqual([rule[3] for rule in card.rules if rule[:2] == ("q", "p")],
                         [(("t", 0), ("u", 1)), (("t", 1), ("u", 1)), (("t", 2), ("u", 1))])
        self.assertEqual([rule[3] for rule in card.rules if rule[2] == Form(-3)],
                         [(("t", 0), ("u", 0)), (("t", 0), ("u", 1))])
        self.assertEqual([rule[3] for rule in card.rules if rule[:2] == ("p", "frame")], [()])

    def test_late_runs_that_fail(self):
        self.check(shop([late("t", "", "+cut +cut", "-cut"), M, N, P, Q]))
        self.check(shop([late("u", "", "+cut"), M, N, late("t", "+add", "+cut"), P, Q]))
        office = shop([late("u", "", "+cut"), M, N, late("t", "+add", "+cut"), P, Q])
        self.assertEqual(raised(release_card, office, ("main",)), (LateFails, {"row": (1, 1)}))
        # Both late runs fail at the other content.
        self.assertEqual(raised(release_card, office, ("main", "+cut", "+add")), (LateFails, {"row": (0, 0)}))

    def test_waived_limits(self):
        for waived in [[HIGH], [HIGH, HIGH], [LOW, ROOM], [SIDE], [HIGH, LOW, ROOM, SIDE]]:
            card = self.check(shop([M, late("t", "+cut", "+add"), N, P, Q], waived=waived))
        self.assertEqual(card.rules, [])

    def test_more_than_80_rules(self):
        limits = [("reach", "p", "frame", (at, ())) for at in range(-40, 60)]
        card = self.check(shop([P], drawings={"main": Sheet(limits)}, changes={}, facts=[]))
        self.assertEqual((len(card.rules), sure(card)), (100, True))
        change = Change([], [("room", "p", "frame", "", (at, ())) for at in range(-50, -39)])
        facts = [("goes", ("main", "+up"))]
        card = self.check(shop([late("s", "", "+up", ""), late("t", "", "", ""), P], drawings={"main": Sheet(limits)},
                               changes={"up": change}, facts=facts))
        self.assertEqual((len(card.rules), sure(card)), (133, True))

    def test_errors_in_order(self):
        office = shop([M, N, late("t", "+cut +cut"), P, Q])
        for run in [(), ("",), ("+cut",), ("main", "cut"), ("main", "+Cut")]:
            self.assertEqual(raised(release_card, office, run), (BadRun, {"run": run}))
        self.assertEqual(raised(release_card, office, ("other", "+no")), (UnknownStart, {"name": "other"}))
        self.assertEqual(raised(release_card, office, ("main", "+cut", "+no", "-no2")), (UnknownChange, {"name": "no"}))
        self.assertEqual(raised(release_card, office, ("main", "+cut", "+cut")), (RunFails, {}))
        self.assertEqual(raised(release_card, office, ("main",)), (LateFails, {"row": (0,)}))

    def test_each_card_is_new(self):
        office = shop([M, N, P, Q])
        card = release_card(office, ("main",))
        card.back()
        self.check(office)

    def test_held_against_the_words_on_random_offices(self):
        options = ["", "+cut", "+add", "-cut", "+cut +add", "+none", "-add", "+add -add"]
        found = {"card": 0, "late": 0}
        for seed in range(300):
            chance = random.Random(seed)
            lates = [late(name, *[chance.choice(options) for _ in range(chance.randint(1, 3))])
                     for name in chance.sample(["s", "t", "u"], chance.randint(0, 2))]
            steps = [M, N, P, Q] + lates
            chance.shuffle(steps)
            limits = chance.sample([LOW, HIGH, ROOM, SIDE], chance.randint(0, 4))
            drawings = {"main": Sheet(limits)}
            try:
                Binder(drawings, CHANGES, FACTS)
            except ValueError:
                drawings = None
            office = shop(steps, drawings=drawings, waived=chance.sample([LOW, HIGH, ROOM, SIDE], chance.randint(0, 2)))
            run = chance.choice([("main",), ("main", "+cut"), ("main", "+add"), ("main", "+cut", "+add")])
            found["late" if self.check(office, run) is None else "card"] += 1
        self.assertGreater(min(found.values()), 50)


if __name__ == "__main__":
    unittest.main()
