"""What the facts of a binder say (point 48 of the document)."""

from drawingoffice.errors import BadFact, BadRun
from drawingoffice.facts import is_fact, opposites
from drawingoffice.fitting import fit_with
from drawingoffice.runs import check_runs, is_run


def judge(binder, fact):
    """Whether the fact holds in all stores that fit (`sure`), in none (`never`) or in some (`open`)."""
    if witness(binder, fact, holds=False) is None:
        return "sure"
    if witness(binder, fact, holds=True) is None:
        return "never"
    return "open"


def witness(binder, fact, *, holds):
    """A store that fits in which the fact holds or, as `holds` asks, does not hold; None if there is none."""
    if not is_fact(fact):
        raise BadFact(0)
    check_runs(fact[1:], binder.drawings, binder.changes)
    ways = [fact] if holds else opposites(fact)
    for way in ways:
        fit = fit_with(binder, way)
        if fit.is_fit:
            return fit.fold.net
    return None


def stops(binder, run):
    """The numbers of steps after which the run can stop, at its end or because the next step does not lead on."""
    if not is_run(run):
        raise BadRun(run)
    check_runs([run], binder.drawings, binder.changes)
    found = []
    for size in range(1, len(run) + 1):
        fit = fit_with(binder, ("goes", run[:size]))
        if not fit.is_fit:
            break
        # What leads on in this folded store does so in every store that fits and lets the first steps go.
        if size == len(run) or fit.fold.net.end(run[:size + 1]) is None:
            found.append(size - 1)
    return found
