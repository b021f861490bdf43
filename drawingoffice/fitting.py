"""Whether some store fits drawings, changes and facts (points 46 and 47 of the document)."""

from drawingoffice.bearing import spread
from drawingoffice.facts import first_broken
from drawingoffice.folding import folded


class Fit:
    """How the folded store of some facts fits them.

    `fold` tells how it was folded, and `borne` the sheets of its contents. `against` is None if the store bears
    the drawings, otherwise a fact that holds in it and contradicts them; `broken` is the least index of a fact that
    does not hold in it although it bears the drawings, or None. `is_fit` is True if neither stands against it.
    """

    def __init__(self, fold, borne, against, broken):
        self.fold = fold
        self.borne = borne
        self.against = against
        self.broken = broken
        self.is_fit = against is None and broken is None


def fit_of(drawings, changes, facts):
    """Fold the facts and see whether the folded store fits."""
    fold = folded(drawings, facts)
    borne, against = spread(fold.net, drawings, changes)
    broken = first_broken(facts, fold.net) if against is None else None
    return Fit(fold, borne, against, broken)


def first_unfit(drawings, changes, facts):
    """The least index such that no store fits the facts up to this one, for facts that no store fits."""
    # With each further fact fewer stores fit.
    low = 0
    high = len(facts) - 1
    while low < high:
        middle = (low + high) // 2
        if fit_of(drawings, changes, facts[:middle + 1]).is_fit:
            low = middle + 1
        else:
            high = middle
    return low


def fit_with(binder, fact):
    """Fold the facts of the binder with one more behind them and see whether the folded store fits."""
    return fit_of(binder.drawings, binder.changes, [*binder.facts, fact])
