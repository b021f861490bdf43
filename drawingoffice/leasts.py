"""The least facts that say the same (point 51 of the document)."""

from drawingoffice.binders import Binder
from drawingoffice.facts import contrary, holds
from drawingoffice.fitting import fit_with


def least(binder):
    """The binder that says the same facts, and none of whose facts is said by its other ones."""
    facts = [binder.facts[at] for at in _kept_denials(binder)]
    fails = [fact for fact in facts if fact[0] == "fails"]
    aparts = [_with_first_runs(binder, fact) for fact in facts if fact[0] == "apart"]
    ends = [run for fact in aparts for run in fact[1:]]
    goes = [("goes", run) for run in _lone_runs(binder) if run not in ends]
    return Binder(binder.drawings, binder.changes, goes + _alike_starts(binder) + _alike_moves(binder) + fails + aparts)


def _kept_denials(binder):
    """The indexes of the fails facts and apart facts that are kept."""
    nets = {}
    for at, fact in enumerate(binder.facts):
        if fact[0] in ("fails", "apart"):
            fit = fit_with(binder, contrary(fact))
            if fit.against is None:
                nets[at] = fit.fold.net
    return [at for at in nets if not _is_said_by_others(at, binder.facts, nets)]


def _is_said_by_others(at, facts, nets):
    """True if the fact follows from an earlier one, or from one that does not follow from it.

    `nets` has the folded stores of all facts and the contrary of one, by the index of this one.
    """
    for other in nets:
        if other != at and not holds(facts[other], nets[at]) and (other < at or holds(facts[at], nets[other])):
            return True
    return False


def _with_first_runs(binder, fact):
    """The apart fact with the first runs of the ends of its runs, the end with the lower number first."""
    ends = sorted([int(binder.store.end(run)) for run in fact[1:]])
    return "apart", binder.first_runs[ends[0]], binder.first_runs[ends[1]]


def _lone_runs(binder):
    """The first runs of the contents on which no start stands and which exactly one move touches."""
    touching = [0 for _ in range(binder.store.contents)]
    for source, _, target in binder.store.moves:
        touching[source] = touching[source] + 1
        if target != source:
            touching[target] = touching[target] + 1
    return [run for run, count in zip(binder.first_runs, touching) if count == 1 and len(run) > 1]


def _alike_starts(binder):
    """The facts that tell which starts stand on one content."""
    firsts = binder.first_runs
    starts = binder.store.starts
    return [("alike", firsts[starts[name]], (name,)) for name in starts if firsts[starts[name]] != (name,)]


def _alike_moves(binder):
    """The facts that tell the moves by which no content was numbered."""
    firsts = binder.first_runs
    found = []
    for source, name, target in binder.store.moves:
        run = firsts[source] + ("+" + name,)
        if firsts[target] != run and firsts[source] != firsts[target] + ("-" + name,):
            found.append(("alike", run, firsts[target]))
    return found
