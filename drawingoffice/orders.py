"""Orders of changes (points 40 and 41 of the document)."""

from drawingoffice.changes import first_wrong
from drawingoffice.errors import NoOrder
from drawingoffice.limits import ascending


def orders_that_go(sheet, changes, names):
    """The orders of the names that go on the sheet, in ascending order, one at a time."""
    if len(names) == 0:
        yield []
    for at, name in enumerate(names):
        change = changes[name]
        if sheet in change:
            after = change(sheet)
            others = list(names[:at]) + list(names[at + 1:])
            for order in orders_that_go(after, changes, others):
                yield [name] + order


def order_count(sheet, changes, names):
    """The number of the orders that go."""
    return len(list(orders_that_go(sheet, changes, names)))


def first_order(sheet, changes, names):
    """The first order that goes, or None."""
    for order in orders_that_go(sheet, changes, names):
        return order
    return None


def sheet_after_all(sheet, changes, names):
    """The sheet that every order that goes leaves, or None if no order goes."""
    order = first_order(sheet, changes, names)
    if order is None:
        return None
    for name in order:
        change = changes[name]
        sheet = change(sheet)
    return sheet


def always_before(sheet, changes, names):
    """The pairs of names of which the first comes before the second in every order that goes."""
    orders = list(orders_that_go(sheet, changes, names))
    if not orders:
        raise NoOrder()
    pairs = [(first, second) for first in names for second in names if first != second]
    return [(one, two) for one, two in pairs if all([order.index(one) < order.index(two) for order in orders])]


def clash(sheet, changes, names):
    """Why not every order goes on the sheet: a change that does not go alone, or two changes; None if all go."""
    for name in names:
        if sheet not in changes[name]:
            return "alone", name, first_wrong(changes[name], sheet)
    for first in names:
        for second in names:
            shared = _moved_limits(changes[first], changes[second])
            if first != second and shared:
                return "pair", first, second, shared[0]
    return None


def freest(sheet, changes, names):
    """A longest list of the names of which every order goes on the sheet."""
    best = []
    for chosen in _sublists(list(names)):
        if len(chosen) > len(best) and clash(sheet, changes, chosen) is None:
            best = chosen
    return best


def _moved_limits(first, second):
    """The limits that the first change loses or gains and the second one touches, in ascending order."""
    touched = second.touched
    return [limit for limit in ascending(first.lost + first.gained) if limit in touched]


def _sublists(names):
    """All lists of some of the names in their order, those with the first name in front of those without it."""
    if not names:
        return [[]]
    others = _sublists(names[1:])
    return [[names[0]] + other for other in others] + others
