"""Small offices for the tests: revisions, late steps, rules and programs that go wrong in different ways."""

import random

from drawingoffice.binders import Binder
from drawingoffice.catalogs import Catalog
from drawingoffice.changes import Change
from drawingoffice.joints import joined
from drawingoffice.lists import Steps
from drawingoffice.offices import Office
from drawingoffice.programs import Program
from drawingoffice.routes import Route
from drawingoffice.rules import Rules
from drawingoffice.sheets import Sheet
from drawingoffice.stocks import Stock
from small_offices import random_facts, sublists
from small_programs import Writer, make_office

LOW = ("reach", "p", "frame", (3, ()))
HIGH = ("reach", "p", "frame", (9, (("m", -1),)))
ROOM = ("room", "p", "frame", "aa", (1, (("m", 1),)))
LIMITS = [LOW, HIGH, ROOM]
STOCK = Stock(Catalog({"a": 2}), Steps([]))
CHANGES = {"a": Change(), "cut": Change([HIGH], [LOW])}
# The places from 5 to 7 suit every value of the measure, and behind the cut no place suits.
DRAWING = Sheet([HIGH, ROOM])
M, P = ("measure", "m", 0, 2), ("part", "p")
OPTIONS = [(("+cut",), ()), (("+a",), ("-a", "+cut")), ((),), (("+a",),)]


def make_shop(program=(), *, facts=(), rules=None, steps=(M, P), waived=(), stock=STOCK, changes=None):
    """An office with the drawing and the revisions of this file."""
    return Office(route=Route(list(steps)), stock=stock, waived=waived, rules=Rules([], [[]], []) if rules is None else rules,
                  binder=Binder({"main": DRAWING}, CHANGES if changes is None else changes, list(facts)),
                  program=program if isinstance(program, Program) else Program(program))


def random_shop(seed, *, definitions=3, counts=((), (0,), (1,)), depth=3):
    """A random office whose program has no `when`; None if its facts fit no store."""
    chance = random.Random(seed)
    facts = random_facts(seed, ["main"], ["a", "cut"], most=3, longest=2)
    facts += [fact for fact in [("goes", ("main", "+cut")), ("alike", ("main", "+a"), ("main",))] if chance.random() < 0.4]
    own = chance.sample(["release", "sign", "+cut"], chance.randint(0, 3))
    modes = chance.randint(1, 2)
    rules = Rules(own, [[chance.randrange(modes) for _ in own] for _ in range(modes)],
                  [(mode, event) for mode in range(modes) for event in own if chance.random() < 0.15])
    steps = [M, P] if chance.random() < 0.5 else [P, M]
    if chance.random() < 0.5:
        steps.insert(chance.randint(0, 2), ("late", "t", chance.choice(OPTIONS)))
    try:
        office = make_shop(facts=facts, rules=rules, steps=steps, waived=[LOW] if chance.random() < 0.3 else [])
    except ValueError:
        return None
    return office.replaced(program=Without(seed, joined(office, "main", checked=False), definitions=definitions,
                                           counts=counts, depth=depth, modes=modes).program())


class Without(Writer):
    """Writes programs without `when`, in which most runs release."""

    def body(self, scope, depth):
        if self.chance.random() < 0.15:
            return ("do", "release", self.body(scope, depth - 1) if depth > 0 else ("stop",))
        told = super().body(scope, depth)
        return self.body(scope, depth) if told[0] == "when" else told


def cube_office(names, program, *, rules=None):
    """An office in which revisions that touch nothing were seen to go in any order and to meet."""
    facts = [("goes", ("main", *["+" + name for name in names]))]
    for done in sublists(names):
        left = [name for name in names if name not in done]
        for at, one in enumerate(left):
            for two in left[at + 1:]:
                run = ("main", *["+" + name for name in done])
                facts.append(("alike", run + ("+" + one, "+" + two), run + ("+" + two, "+" + one)))
    return make_office(program, changes={name: Change() for name in names}, facts=facts,
                       rules=Rules([], [[]], []) if rules is None else rules)
