"""Small joints and programs for the tests, and points 63 to 66 of the document played out directly on them."""

import itertools
import random

from drawingoffice.binders import Binder
from drawingoffice.catalogs import Catalog
from drawingoffice.changes import Change
from drawingoffice.joints import joined
from drawingoffice.lists import Steps
from drawingoffice.offices import Office
from drawingoffice.programs import Program
from drawingoffice.routes import Route
from drawingoffice.rules import Rules
from drawingoffice.sheets import Sheet
from drawingoffice.stocks import Stock
from drawingoffice.stores import Store

LIMIT = ("reach", "p", "frame", (5, ()))
OTHER = ("room", "p", "frame", "aa", (0, ()))
EVERY = Rules([], [[]], [])
STOP = ("stop",)
RELEASE = ("do", "release", STOP)


def make_office(program=(), *, drawings=None, changes=None, facts=(), rules=EVERY, route=None, stock=None, waived=()):
    """An office of small parts, one drawing with one limit unless other ones are told."""
    drawings = {"main": Sheet([LIMIT])} if drawings is None else drawings
    changes = {} if changes is None else changes
    return Office(route=Route([("part", "p")]) if route is None else route,
                  stock=Stock(Catalog({"a": 2}), Steps([])) if stock is None else stock,
                  binder=Binder(drawings, changes, list(facts)), rules=rules,
                  program=program if isinstance(program, Program) else Program(program), waived=waived)


def random_joint(seed, *, contents=3, names=("a", "b"), modes=1, share=0.2):
    """A joint of a random store and random rules, in which random pairs are wrong."""
    chance = random.Random(seed)
    moves = []
    for name in names:
        sources = chance.sample(range(contents), chance.randint(0, contents))
        targets = chance.sample(range(contents), len(sources))
        moves += [(source, name, target) for source, target in zip(sources, targets)]
    own = ["release", "+" + names[0], "sign"]
    rules = Rules(own, [[chance.randrange(modes) for _ in own] for _ in range(modes)],
                  [(mode, event) for mode in range(modes) for event in own if chance.random() < 0.2])
    office = make_office(changes={name: Change() for name in names}, rules=rules)
    joint = joined(office, "main", store=Store(contents, {"main": 0}, moves))
    pairs = [(state, event) for state in range(len(joint.pairs)) for event in joint.events]
    return joint.judged([pair for pair in pairs if chance.random() < share])


class Writer:
    """Writes random programs whose bodies fit the events and the states of a joint."""

    def __init__(self, seed, joint, *, definitions, counts, depth, modes=1, loops=True):
        self.chance = random.Random(seed)
        self.events = joint.events
        self.states = range(len(joint.pairs))
        self.modes = range(modes)
        self.depth = depth
        self.loops = loops
        shapes = [self.chance.choice(counts) for _ in range(definitions)]
        self.counts = {"d" + str(number): shape for number, shape in enumerate(shapes)}
        self.counts["d0"] = ()

    def program(self):
        definitions = []
        for number, name in enumerate(self.counts):
            self.number = number
            self.fresh = 0
            params = tuple((self.new_name(), count) for count in self.counts[name])
            definitions.append((name, params, self.body(dict(params), self.depth)))
        return Program(definitions)

    def new_name(self):
        self.fresh += 1
        return "v" + str(self.fresh)

    def body(self, scope, depth):
        kinds = ["do"] * 4 + ["choose"] * 4 + ["call"] * 8 + ["when", "mode", "shows"]
        kind = self.chance.choice(kinds) if depth > 0 else self.chance.choice(["stop", "do", "call", "call", "call"])
        if kind == "do":
            event = self.chance.choice(self.events)
            return ("do", event, self.body(scope, depth - 1) if depth > -2 else STOP)
        if kind == "choose":
            return ("choose", tuple(self.body(scope, depth - 1) for _ in range(self.chance.randint(1, 3))))
        if kind == "call":
            return self.call(scope, depth)
        if kind in ("when", "mode"):
            pool = self.states if kind == "when" else self.modes
            chosen = tuple(state for state in pool if self.chance.random() < 0.7)
            return (kind, chosen, self.body(scope, depth - 1))
        if kind == "shows":
            return ("shows", self.chance.choice([LIMIT, OTHER]), self.body(scope, depth - 1))
        return STOP

    def callees(self):
        """The definitions that may be called; only later ones if the program is to end."""
        return list(self.counts) if self.loops else list(self.counts)[self.number + 1:]

    def call(self, scope, depth):
        names = self.callees() * 2 + list(scope) * 3
        if depth <= 0:
            names = [name for name in names if not self.kinds(name, scope)]
        if not names:
            return STOP
        name = self.chance.choice(names)
        return ("call", name, tuple(self.argument(kind, scope, depth - 1) for kind in self.kinds(name, scope)))

    def kinds(self, name, scope):
        return (0,) * scope[name] if name in scope else self.counts[name]

    def argument(self, kind, scope, depth):
        usable = [name for name in scope if scope[name] == kind] * 2
        usable += [name for name in self.callees() if not any(self.counts[name]) and len(self.counts[name]) == kind]
        if usable and self.chance.random() < 0.5:
            return ("use", self.chance.choice(usable))
        names = tuple(self.new_name() for _ in range(kind))
        return ("make", names, self.body({**scope, **dict.fromkeys(names, 0)}, max(depth, 0)))


def random_program(seed, joint, *, definitions=3, counts=((), (0,), (1,)), depth=3, modes=1, loops=True):
    return Writer(seed, joint, definitions=definitions, counts=counts, depth=depth, modes=modes, loops=loops).program()


# Point 65.


def reached_by_hand(joint, state):
    """The states that events that lead on reach from the state, and the state itself."""
    found = [state]
    for here in found:
        for event in joint.events:
            target = joint.next_state(here, event)
            if target is not None and target not in found:
                found.append(target)
    return found


def harmless_by_hand(joint, state):
    return not any(here in reached_by_hand(joint, state) for here, event in joint.wrong)


def possible_ways(joint, count):
    """All possible ways of a parameter with this count."""
    states = range(len(joint.pairs))
    ways = [(p,) for p in states if not harmless_by_hand(joint, p)]
    return ways + [(p, i, q) for p in states for i in range(count) for q in sorted(reached_by_hand(joint, p))
                   if not harmless_by_hand(joint, q)]


def all_needs(joint, counts, most=99):
    """All needs, of at most so many pairs, that a definition with parameters of these counts may have."""
    pairs = [(index, way) for index, count in enumerate(counts) for way in possible_ways(joint, count)]
    for size in range(min(most, len(pairs)) + 1):
        for some in itertools.combinations(sorted(pairs), size):
            if not any(len(way) == 3 and (index, way[:1]) in some for index, way in some):
                yield some


def implies(fact, other):
    """Point 65, the last sentence."""
    return fact[:2] == other[:2] and all((index, way) in other[2] or (index, way[:1]) in other[2]
                                         for index, way in fact[2])


# Point 66.


class Judge:
    """Tells what goes wrong when some facts are given, case by case."""

    def __init__(self, program, joint, facts):
        self.program = program
        self.joint = joint
        self.facts = set(facts)

    def rests(self, fact):
        name, state, needs = fact
        params = self.program[name][1]
        return self.goes_wrong(self.program[name][2], state, {(params[index][0], way) for index, way in needs})

    def goes_wrong(self, body, p, granted):
        kind = body[0]
        if kind == "do":
            if (p, body[1]) in self.joint.wrong:
                return True
            q = self.joint.next_state(p, body[1])
            return q is not None and self.goes_wrong(body[2], q, granted)
        if kind == "choose":
            return any(self.goes_wrong(inner, p, granted) for inner in body[1])
        if kind in ("when", "mode", "shows"):
            return test_by_hand(self.joint, p, body) and self.goes_wrong(body[2], p, granted)
        return kind == "call" and self.call_goes_wrong(body[1], body[2], p, granted)

    def call_goes_wrong(self, name, args, p, granted):
        if name in self.program:
            return any(fact[:2] == (name, p) and all(self.has(args[i], way, granted) for i, way in fact[2])
                       for fact in self.facts)
        return is_granted(name, (p,), granted) or any(
            other == name and len(way) == 3 and way[0] == p and self.has(args[way[1]], way[2:], granted)
            for other, way in granted)

    def has(self, arg, way, granted):
        if arg[0] == "make":
            own = set() if len(way) == 1 else {(arg[1][way[1]], way[2:])}
            return self.goes_wrong(arg[2], way[0], granted | own)
        if arg[1] not in self.program:
            return is_granted(arg[1], way, granted)
        if (arg[1], way[0], ()) in self.facts:
            return True
        return len(way) == 3 and (arg[1], way[0], ((way[1], way[2:]),)) in self.facts


def is_granted(name, way, granted):
    return (name, way) in granted or (name, way[:1]) in granted


def test_by_hand(joint, p, body):
    if body[0] == "when":
        return p in body[1]
    if body[0] == "mode":
        return joint.pairs[p][1] in body[1]
    # In these joints every content has the sheet of the drawing.
    return body[1] == LIMIT


def table_by_hand(program, joint):
    """The least closed list, in the order of point 67."""
    facts = grown_by_hand(program, joint)
    order = {name: at for at, name in enumerate(program.names)}
    least = [fact for fact in facts if not any(implies(other, fact) for other in facts if other != fact)]
    return sorted(least, key=lambda fact: (order[fact[0]], fact[1], fact[2]))


def grown_by_hand(program, joint):
    """A closed list of facts in which each one rests on those before it, made by adding facts until nothing is open."""
    facts = []
    grew = True
    while grew:
        grew = False
        judge = Judge(program, joint, facts)
        for name in program.names:
            counts = [count for _, count in program[name][1]]
            for state in range(len(joint.pairs)):
                for needs in all_needs(joint, counts):
                    fact = (name, state, needs)
                    if not any(implies(other, fact) for other in facts) and judge.rests(fact):
                        facts = facts + [fact]
                        grew = True
    return facts


# Point 63.


def replaced(body, values):
    """The body with closed arguments in the place of names."""
    if body[0] == "stop" or not values:
        return body
    if body[0] == "choose":
        return ("choose", tuple(replaced(inner, values) for inner in body[1]))
    if body[0] == "call":
        called = values.get(body[1], body[1]) if isinstance(body[1], str) else body[1]
        return ("call", called, tuple(replaced_argument(argument, values) for argument in body[2]))
    return (*body[:2], replaced(body[2], values))


def replaced_argument(argument, values):
    if argument[0] == "use":
        return values.get(argument[1], argument)
    # A name that the closure binds itself is another one.
    others = {name: value for name, value in values.items() if name not in argument[1]}
    return ("make", argument[1], replaced(argument[2], others))


def entered(program, called, arguments):
    """The body that a call goes on with; what is called is a name or a closed argument."""
    if isinstance(called, tuple) and called[0] == "make":
        return replaced(called[2], dict(zip(called[1], arguments)))
    _, params, body = program[called[1] if isinstance(called, tuple) else called]
    return replaced(body, {name: argument for (name, _), argument in zip(params, arguments)})


def replay_by_hand(program, joint, name, choices, limit=100):
    """A run in which names are replaced by what they stand for."""
    body, events, state, used, calls = program[name][2], [], 0, 0, 0
    while True:
        if body[0] == "stop":
            return "stopped", events, state, used
        if body[0] == "do":
            events.append(body[1])
            if (state, body[1]) in joint.wrong:
                return "wrong", events, state, used
            if joint.next_state(state, body[1]) is None:
                return "ended", events, state, used
            state, body = joint.next_state(state, body[1]), body[2]
        elif body[0] == "choose":
            if used == len(choices):
                return "choices", events, state, used
            body, used = body[1][choices[used]], used + 1
        elif body[0] == "call":
            if calls == limit:
                return "limit", events, state, used
            body, calls = entered(program, body[1], body[2]), calls + 1
        elif test_by_hand(joint, state, body):
            body = body[2]
        else:
            return "stopped", events, state, used


def all_runs_end(program, joint, name, longest):
    """Whether some run goes wrong, by all replays with at most so many choices; None if some runs do not end by then."""
    rows, is_open = [[]], False
    for _ in range(longest + 1):
        further = []
        for row in rows:
            end, _, _, used = replay_by_hand(program, joint, name, row, 200)
            if end == "wrong":
                return True
            is_open = is_open or end == "limit"
            if end == "choices":
                further += [row + [choice] for choice in range(6) if can_choose(program, joint, name, row, choice)]
        rows = further
    return None if rows or is_open else False


def can_choose(program, joint, name, row, choice):
    try:
        replay_by_hand(program, joint, name, row + [choice], 200)
    except IndexError:
        return False
    return True
