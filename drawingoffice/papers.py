"""Papers, which show what facts force (points 49 and 50 of the document)."""

from drawingoffice.answers import judge
from drawingoffice.changes import change_of
from drawingoffice.classes import Classes
from drawingoffice.errors import NotForced
from drawingoffice.facts import contrary, seen_runs
from drawingoffice.fitting import fit_with
from drawingoffice.folding import folded
from drawingoffice.runs import leads, prefixes


class Paper:
    """Facts, a claim, and the rows and traces that are to show it; it checks nothing and never changes."""

    def __init__(self, facts, claim, rows, traces):
        self._facts = list(facts)
        self._claim = claim
        self._rows = list(rows)
        self._traces = [list(trace) for trace in traces]

    @property
    def facts(self):
        """The facts in order."""
        return list(self._facts)

    @property
    def claim(self):
        """The goes fact or alike fact that is to be shown."""
        return self._claim

    @property
    def rows(self):
        """The rows in order."""
        return list(self._rows)

    @property
    def traces(self):
        """The traces in order."""
        return [list(trace) for trace in self._traces]


def paper_flaw(paper):
    """The first thing in the paper that is not right, or None."""
    facts = paper.facts
    merged = Classes(_places(facts))
    for at, row in enumerate(paper.rows):
        if not _row_is_right(row, facts, merged):
            return "row", at
        merged.merge(row[0], row[1])
    runs = paper.claim[1:]
    traces = paper.traces
    if len(traces) != len(runs):
        return "count", len(traces)
    for at, trace in enumerate(traces):
        if not _trace_is_right(trace, runs[at], merged):
            return "trace", at
    ends = [trace[-1][1] if trace else run[:1] for trace, run in zip(traces, runs)]
    if len(ends) == 2 and not merged.are_one(ends[0], ends[1]):
        return "end", 0
    return None


def papers(binder, fact):
    """Right papers that show the answer to the fact."""
    answer = judge(binder, fact)
    if answer == "open":
        raise NotForced()
    if answer == "never":
        return [_against(binder, fact)]
    if fact[0] == "fails":
        return [_against(binder, contrary(fact))]
    if fact[0] == "apart":
        both_go = [_shown(binder, ("goes", run)) for run in fact[1:]]
        return both_go + [_against(binder, contrary(fact))]
    return [_shown(binder, fact)]


def contradicts(binder, paper):
    """True if the claim of the paper contradicts its facts or the drawings of the binder."""
    claim = paper.claim
    is_going = claim[0] == "goes"
    denial = ("fails" if is_going else "apart",) + claim[1:]
    if denial in paper.facts:
        return True
    sheets = [_sheet_left(binder, run) for run in claim[1:]]
    if is_going:
        return sheets[0] is None
    return all([sheet is not None for sheet in sheets]) and sheets[0] != sheets[1]


def _places(facts):
    """The prefixes of the seen runs of the facts and the runs without steps of all their starts."""
    going = [place for fact in facts for run in seen_runs(fact) for place in prefixes(run)]
    return going + [run[:1] for fact in facts for run in fact[1:]]


def _row_is_right(row, facts, merged):
    first, second, reason = row
    if first not in merged or second not in merged:
        return False
    if reason[0] == "seen":
        return 0 <= reason[1] < len(facts) and facts[reason[1]] == ("alike", first, second)
    _, step, before_first, before_second = reason
    if before_first not in merged or before_second not in merged:
        return False
    both_lead = leads(before_first, step, first) and leads(before_second, step, second)
    return both_lead and merged.are_one(before_first, before_second)


def _trace_is_right(trace, run, merged):
    if len(trace) != len(run) - 1:
        return False
    place = run[:1]
    for (source, target), step in zip(trace, run[1:]):
        if source not in merged or target not in merged or not leads(source, step, target):
            return False
        if not merged.are_one(place, source):
            return False
        place = target
    return True


def _shown(binder, claim):
    """A paper that shows the claim, which is sure, from the facts of the binder."""
    return _written(folded(binder.drawings, binder.facts), binder.facts, claim)


def _against(binder, supposed):
    """A paper that shows that the supposed fact, which is never, contradicts what the binder says."""
    facts = [*binder.facts, supposed]
    fit = fit_with(binder, supposed)
    claim = fit.against if fit.broken is None else contrary(facts[fit.broken])
    return _written(fit.fold, facts, claim)


def _written(fold, facts, claim):
    """The paper of a claim that holds in the folded store of the facts."""
    rows = [(fold.all_places[one], fold.all_places[two], _reason(fold, reason)) for one, two, reason in fold.merges]
    ways = {}
    for before, step, after in fold.ways:
        ways[(fold.content_of[before], step)] = (fold.all_places[before], fold.all_places[after])
    return Paper(facts, claim, rows, [_trace(fold.net, ways, run) for run in claim[1:]])


def _reason(fold, reason):
    """The reason of a merge with the places themselves in the place of their indexes."""
    if reason[0] == "seen":
        return reason
    return reason[:2] + (fold.all_places[reason[2]], fold.all_places[reason[3]])


def _trace(store, ways, run):
    """The trace of a run that goes, where `ways` has a pair of places for each content and each step from there."""
    trace = []
    content = store.end(run[:1])
    for step in run[1:]:
        trace.append(ways[(content, step)])
        content = store.target(content, step)
    return trace


def _sheet_left(binder, run):
    """The sheet that the run leaves of the drawing of its start, or None if it does not go on it."""
    change = change_of(binder.changes, run[1:])
    drawings = binder.drawings
    sheet = drawings[run[0]]
    return change(sheet) if sheet in change else None
