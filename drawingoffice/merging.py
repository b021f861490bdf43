"""Definitions that make some revisions in any order (point 73 of the document)."""


def merge_definitions(names):
    """Definitions of which the first one applies all revisions, each once and in any order, and then releases."""
    goal = ("do", "release", ("stop",))
    # The number of a definition has the bit `1 << at` for each name that was applied before.
    everything = (1 << len(names)) - 1
    definitions = [("merge", (), goal if everything == 0 else _any_next(names, 0))]
    for done in range(1, everything):
        definitions.append((_name_of(done), (), _any_next(names, done)))
    if everything > 0:
        definitions.append((_name_of(everything), (), goal))
    return definitions


def _any_next(names, done):
    """The body that applies any one of the names that were not applied before."""
    bodies = []
    for at, name in enumerate(names):
        if not (done >> at) & 1:
            bodies.append(("do", "+" + name, ("call", _name_of(done | (1 << at)), ())))
    return bodies[0] if len(bodies) == 1 else ("choose", tuple(bodies))


def _name_of(done):
    return "m" + str(done)
