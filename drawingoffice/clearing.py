"""Whether an office is cleared (points 69 to 71 of the document)."""

from drawingoffice.answers import witness
from drawingoffice.derivations import derivation
from drawingoffice.errors import IsCleared
from drawingoffice.fitness import check_start
from drawingoffice.guides import steps_to_wrong
from drawingoffice.joints import joined
from drawingoffice.offices import RELEASE
from drawingoffice.refusals import Refusal
from drawingoffice.releases import Shop
from drawingoffice.running import reached_goals
from drawingoffice.tables import goes_wrong


def cleared(office, name, start):
    """True if in no store that fits the binder some run of the definition goes wrong."""
    return not goes_wrong(office.program, joined(office, start), name)


def wrong_events(office, name, start):
    """The wrong events in the joint with the folded store that some run does, with their contents and modes."""
    joint = joined(office, start)
    check_start(office.program, joint, name)
    pairs = joint.pairs
    return [pairs[state] + (event,) for state, event in reached_goals(office.program, joint, name, joint.wrong)]


def releasable(office, name, start):
    """The contents and modes at which some run does a release, if every release leads on that the rules let."""
    joint = joined(office, start, checked=False)
    check_start(office.program, joint, name)
    pairs = joint.pairs
    goals = [(state, RELEASE) for state in range(len(pairs)) if joint.next_state(state, RELEASE) is not None]
    return [pairs[state] for state, _ in reached_goals(office.program, joint, name, goals)]


def verdict(office, name, start):
    """Whether the office is cleared, refused, or doomed, which means that in every store some run goes wrong."""
    joint = joined(office, start)
    if not goes_wrong(office.program, joint, name):
        return "cleared"
    return "doomed" if _fated(office, joint, name) else "refused"


def refusal(office, name, start):
    """A run that goes wrong, and why; with a fated event at its end if the verdict is doomed."""
    joint = joined(office, start)
    if not goes_wrong(office.program, joint, name):
        raise IsCleared()
    fated = _fated(office, joint, name)
    if fated:
        joint = joint.judged(fated)
    steps = list(steps_to_wrong(office.program, joint, name))
    run = (start,) + tuple([step[1] for step in steps if step[0] == "do" and step[1][0] in ("+", "-")])
    binder = office.binder
    if steps[-1] != ("do", RELEASE):
        return Refusal(steps, run, binder.store, kind="step")
    content = binder.store.end(run)
    shop = Shop(office, binder.store, binder.sheets)
    row = shop.failing_row(content)
    if row is not None:
        return Refusal(steps, run, binder.store, kind="late", late=row)
    card = shop.card_at(content)
    return Refusal(steps, run, binder.store, kind="limit", card=card, lines=derivation(card))


def _fated(office, joint, name):
    """The fated ones of the wrong events that some run does, with their states."""
    pairs = joint.pairs
    shop = Shop(office, office.binder.store, office.binder.sheets)
    wrong = reached_goals(office.program, joint, name, joint.wrong)
    return [(state, event) for state, event in wrong if _is_fated(office, shop, pairs[state][0], event)]


def _is_fated(office, shop, content, event):
    """True if no store that fits makes the wrong event right."""
    run = office.binder.first_runs[content]
    if event != RELEASE:
        return _surely_fails(office.binder, run + (event,))
    if shop.failing_row(content) is None:
        return True
    late_runs = [office.route.late_run(row) for row in office.route.late_rows()]
    return any([_surely_fails(office.binder, run + steps) for steps in late_runs])


def _surely_fails(binder, run):
    """True if the binder says that the run fails."""
    return witness(binder, ("fails", run), holds=False) is None
