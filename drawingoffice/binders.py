"""Binders of drawings, revisions and seen facts (points 46 and 47 of the document)."""

from drawingoffice.bearing import spread
from drawingoffice.errors import BadFact, BadName, NoStore
from drawingoffice.facts import first_broken, is_fact
from drawingoffice.fitting import first_unfit, fit_of
from drawingoffice.names import is_name
from drawingoffice.runs import check_runs


class Binder:
    """Drawings, revisions and facts that some store fits; it never changes."""

    def __init__(self, drawings, changes, facts):
        self._drawings = _by_name(drawings)
        self._changes = _by_name(changes)
        self._facts = list(facts)
        for at, fact in enumerate(self._facts):
            if not is_fact(fact):
                raise BadFact(at)
        check_runs([run for fact in self._facts for run in fact[1:]], self._drawings, self._changes)
        fit = fit_of(self._drawings, self._changes, self._facts)
        if not fit.is_fit:
            at = first_unfit(self._drawings, self._changes, self._facts)
            by = fit_of(self._drawings, self._changes, self._facts[:at + 1]).broken
            raise NoStore(at, by)
        self._store = fit.fold.net
        self._sheets = list(fit.borne)
        self._first_runs = list(fit.fold.runs_to)

    @property
    def drawings(self):
        """The sheet of each start; the names ascend."""
        return dict(self._drawings)

    @property
    def changes(self):
        """The change of each revision; the names ascend."""
        return dict(self._changes)

    @property
    def facts(self):
        """The facts in order."""
        return list(self._facts)

    @property
    def store(self):
        """The folded store."""
        return self._store

    @property
    def sheets(self):
        """The sheets of the contents of the folded store."""
        return list(self._sheets)

    @property
    def first_runs(self):
        """The first runs of the contents of the folded store."""
        return list(self._first_runs)

    def __iter__(self):
        return iter(self._facts)

    def __len__(self):
        return len(self._facts)

    def __add__(self, other):
        if not isinstance(other, (list, tuple)):
            return NotImplemented
        return Binder(self._drawings, self._changes, [*self._facts, *other])


def fits(binder, store):
    """True if the store fits the binder."""
    drawings = binder.drawings
    starts = store.starts
    if not all([name in starts for name in drawings]):
        return False
    _, claim = spread(store, drawings, binder.changes)
    return claim is None and first_broken(binder.facts, store) is None


def _by_name(table):
    """The dict with its keys in ascending order."""
    names = sorted([str(name) for name in table])
    for name in names:
        if not is_name(name):
            raise BadName(name)
    return {name: table[name] for name in names}
