"""Definitions that may stand in each other's place (point 68 of the document)."""

from drawingoffice.errors import KindMismatch
from drawingoffice.fitness import check_fit
from drawingoffice.paths import path_between, path_to_wrong
from drawingoffice.tables import table
from drawingoffice.terms import is_covered

MOST_BODIES = 6


def alike(program, joint, first, second):
    """True if the two definitions have parameters of the same counts and the table has the same facts for both."""
    _check_pair(program, joint, first, second)
    facts = table(program, joint)
    return _facts_of(facts, first) == _facts_of(facts, second)


def part(program, joint, first, second):
    """A state, closures, and the one of the two definitions that can go wrong with them; None if they are alike."""
    _check_pair(program, joint, first, second)
    facts = table(program, joint)
    for name, other in ((first, second), (second, first)):
        others = _facts_of(facts, other)
        for state, needs in _facts_of(facts, name):
            if not any([at == state and is_covered(needs, term) for at, term in others]):
                return state, _closures(program, joint, name, needs), name
    return None


def _check_pair(program, joint, first, second):
    check_fit(program, joint, [first, second])
    counts = [tuple([count for _, count in program[name][1]]) for name in (first, second)]
    if counts[0] != counts[1]:
        raise KindMismatch(counts[0], counts[1])


def _facts_of(facts, name):
    """The facts of the definition without its name."""
    return [(state, needs) for other, state, needs in facts if other == name]


def _closures(program, joint, name, needs):
    """Closures for the parameters of the definition that have the needed ways and those that they grant, no others."""
    made = []
    number = 0
    for index, (_, count) in enumerate(program[name][1]):
        names = []
        while len(names) < count:
            if "y" + str(number) not in program:
                names.append("y" + str(number))
            number = number + 1
        bodies = [_body_with(joint, way, names) for slot, way in needs if slot == index]
        made.append(("make", tuple(names), _any_of(bodies)))
    return tuple(made)


def _body_with(joint, way, names):
    """A body that has just this way: from its state it leads to a wrong event or to a call of one of the names."""
    if len(way) == 1:
        body = ("stop",)
        events = path_to_wrong(joint, way[0])
    else:
        body = ("call", names[way[1]], ())
        events = path_between(joint, way[0], way[2])
    for event in events[::-1]:
        body = ("do", event, body)
    return "when", (way[0],), body


def _any_of(bodies):
    """A body that goes on with any one of the bodies, so that no choice is among more than a choice may have."""
    if not bodies:
        return ("stop",)
    while len(bodies) > 1:
        groups = [bodies[at:at + MOST_BODIES] for at in range(0, len(bodies), MOST_BODIES)]
        bodies = [group[0] if len(group) == 1 else ("choose", tuple(group)) for group in groups]
    return bodies[0]
