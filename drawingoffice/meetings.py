"""Runs whose last revisions come in any order (point 52 of the document)."""

from drawingoffice.arrangements import arrangements
from drawingoffice.errors import BadRun
from drawingoffice.runs import check_names, check_runs, is_run


def meeting(binder, run, names):
    """The content of the folded store at which every order ends, or None if they do not surely meet."""
    ends = [binder.store.end(order) for order in _orders(binder, run, names)]
    return ends[0] if len(set(ends)) == 1 else None


def parted_orders(binder, run, names):
    """An order that is not sure to go, or two orders that are not sure to end alike; None if all meet."""
    # What is sure to go or to end alike is just what does so in the folded store.
    orders = _orders(binder, run, names)
    ends = [binder.store.end(order) for order in orders]
    for order, end in zip(orders, ends):
        if end is None:
            return "fails", order
    for order, end in zip(orders, ends):
        if end != ends[0]:
            return "apart", orders[0], order
    return None


def _orders(binder, run, names):
    """The run followed by the applied revisions of the names in any order."""
    if not is_run(run):
        raise BadRun(run)
    check_runs([run], binder.drawings, binder.changes)
    check_names(names, binder.changes)
    return [run + tuple(steps) for steps in arrangements(["+" + name for name in names])]
