"""Facts about stores (point 44 of the document)."""

from drawingoffice.errors import BadFact
from drawingoffice.runs import is_run

RUN_COUNTS = {"goes": 1, "fails": 1, "alike": 2, "apart": 2}


def opposites(fact):
    """The ways in which the fact does not hold."""
    if not is_fact(fact):
        raise BadFact(0)
    if fact[0] in ("goes", "fails"):
        return [("fails" if fact[0] == "goes" else "goes", fact[1])]
    _, first, second = fact
    return [("fails", first), ("fails", second), ("apart" if fact[0] == "alike" else "alike", first, second)]


def is_fact(value):
    """True if the tuple is a fact."""
    if len(value) == 0 or value[0] not in RUN_COUNTS:
        return False
    return len(value) == 1 + RUN_COUNTS[value[0]] and all([is_run(run) for run in value[1:]])


def seen_runs(fact):
    """The runs of the fact if it says that they go."""
    return [] if fact[0] == "fails" else list(fact[1:])


def contrary(fact):
    """The fact that a fails fact or an apart fact denies."""
    return ("goes" if fact[0] == "fails" else "alike",) + fact[1:]


def holds(fact, store):
    """True if the fact holds in the store, which has its starts."""
    ends = [store.end(run) for run in fact[1:]]
    if fact[0] == "fails":
        return ends[0] is None
    if any([end is None for end in ends]):
        return False
    if fact[0] == "goes":
        return True
    return (ends[0] == ends[1]) == (fact[0] == "alike")


def first_broken(facts, store):
    """The least index of a fact that does not hold in the store, or None."""
    for at, fact in enumerate(facts):
        if not holds(fact, store):
            return at
    return None
