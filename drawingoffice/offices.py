"""Offices, which have all that a procedure needs (point 60 of the document)."""

from drawingoffice.bodies import check_bodies
from drawingoffice.errors import BadLimit, UnknownLetter, UnknownName
from drawingoffice.limits import is_limit
from drawingoffice.names import FRAME, is_name
from drawingoffice.runs import check_names

RELEASE = "release"


class Office:
    """A route, a stock, a binder, rules, a program and the limits that are waived; it never changes."""

    def __init__(self, *, route, stock, binder, rules, program, waived=()):
        self._route = route
        self._stock = stock
        self._binder = binder
        self._rules = rules
        self._program = program
        self._waived = list(waived)
        for limit in _limits_of(binder):
            _check_limit(limit, route, stock.catalog)
        for value in self._waived:
            if not is_limit(value):
                raise BadLimit(value)
            _check_limit(value, route, stock.catalog)
        late_options = [option for step in route.steps if step[0] == "late" for option in step[2]]
        check_names([step[1:] for option in late_options for step in option], binder.changes)
        check_bodies(program, {event: True for event in all_events(binder, rules)}, len(rules))

    @property
    def route(self):
        """The order in which a released copy is set."""
        return self._route

    @property
    def stock(self):
        """The stock."""
        return self._stock

    @property
    def binder(self):
        """The drawings, the revisions and what was seen of them."""
        return self._binder

    @property
    def rules(self):
        """The rules of the histories."""
        return self._rules

    @property
    def program(self):
        """The procedures."""
        return self._program

    @property
    def waived(self):
        """The limits that are not asked at releases, as they were passed."""
        return list(self._waived)

    def replaced(self, *, route=None, stock=None, binder=None, rules=None, program=None, waived=None):
        """The office with the given parts in the place of its own."""
        return Office(route=self._route if route is None else route,
                      stock=self._stock if stock is None else stock,
                      binder=self._binder if binder is None else binder,
                      rules=self._rules if rules is None else rules,
                      program=self._program if program is None else program,
                      waived=self._waived if waived is None else waived)


def all_events(binder, rules):
    """The steps of all revisions, the release and the names among the events of the rules, in ascending order."""
    steps = [sign + name for name in binder.changes for sign in ("+", "-")]
    return sorted(set(steps + [RELEASE] + [event for event in rules.events if is_name(event)]))


def _limits_of(binder):
    """The limits of the drawings and then those that the revisions touch."""
    drawn = [limit for sheet in list(binder.drawings.values()) for limit in sheet]
    return drawn + [limit for change in list(binder.changes.values()) for limit in change.touched]


def _check_limit(limit, route, catalog):
    """Raise an error unless the parts and the measures of the limit are steps of the route and its stack is known."""
    parts = [FRAME] + [step[1] for step in route.steps if step[0] == "part"]
    for part in limit[1:3]:
        if part not in parts:
            raise UnknownName(part)
    if limit[0] == "room":
        for char in limit[3]:
            if char not in catalog:
                raise UnknownLetter(char)
    measures = [step[1] for step in route.steps if step[0] == "measure"]
    for name, _ in limit[-1][1]:
        if name not in measures:
            raise UnknownName(name)
