"""Exchanging the stock of an office for another one (point 75 of the document)."""

from drawingoffice.binders import Binder
from drawingoffice.changes import Change
from drawingoffice.errors import NoParting, UnlikeCatalogs
from drawingoffice.gains import excess
from drawingoffice.names import FRAME
from drawingoffice.offices import RELEASE, Office
from drawingoffice.programs import Program
from drawingoffice.routes import Route
from drawingoffice.rules import Rules
from drawingoffice.sheets import Sheet

MAIN = "main"
PART = "p"


def eased(office, *, by):
    """The office in which every limit of the kind room asks for less by the number."""
    binder = office.binder
    drawings = {name: Sheet(_eased_limits(sheet, by)) for name, sheet in binder.drawings.items()}
    changes = {name: _eased_change(change, by) for name, change in binder.changes.items()}
    program = Program([(name, params, _eased_body(body, by)) for name, params, body in office.program])
    return office.replaced(binder=Binder(drawings, changes, binder.facts), program=program,
                           waived=_eased_limits(office.waived, by))


def easing(first, second, *, most):
    """How much longer the first stock can make a stack than the second one; what shows it."""
    if first.catalog != second.catalog:
        raise UnlikeCatalogs()
    return excess(first.resting, second.resting, first.catalog, letters=first.catalog.letters, most=most)


def parting_office(first, second, *, by, most):
    """An office that is cleared with the second stock, but not with the first one even if it is eased."""
    found = easing(first, second, most=most)
    if found.loop is None:
        if by >= found.greatest:
            raise NoParting()
        stack = found.text
    else:
        stack = _stack_above(first, second, found.loop, by)
    limits = [("room", PART, FRAME, stack, (0, ())), ("reach", PART, FRAME, (second.length(stack), ()))]
    return Office(route=Route([("part", PART)]), stock=second, binder=Binder({MAIN: Sheet(limits)}, {}, []),
                  rules=Rules([], [[]], []), program=Program([(MAIN, (), ("do", RELEASE, ("stop",)))]))


def _stack_above(first, second, loop, by):
    """A stack whose gain is greater than the number."""
    before, turn = loop
    least = first.length(before) - second.length(before)
    growth = first.length(before + turn) - second.length(before + turn) - least
    turns = max(0, (by - least) // growth + 1)
    return before + turn * turns


def _eased_limits(limits, by):
    return [_eased_limit(limit, by) for limit in limits]


def _eased_limit(limit, by):
    if limit[0] != "room":
        return limit
    constant, terms = limit[4]
    return limit[:4] + ((constant - by, terms),)


def _eased_change(change, by):
    if change.is_void:
        return change
    return Change(_eased_limits(change.lost, by), _eased_limits(change.gained, by),
                  kept=_eased_limits(change.kept, by), barred=_eased_limits(change.barred, by))


def _eased_body(body, by):
    if body[0] == "stop":
        return body
    if body[0] == "choose":
        return "choose", tuple([_eased_body(inner, by) for inner in body[1]])
    if body[0] == "call":
        return "call", body[1], tuple([_eased_argument(argument, by) for argument in body[2]])
    told = _eased_limit(body[1], by) if body[0] == "shows" else body[1]
    return body[0], told, _eased_body(body[2], by)


def _eased_argument(argument, by):
    return argument[:2] + (_eased_body(argument[2], by),) if argument[0] == "make" else argument
