"""Clearances, which show that an office is cleared (point 72 of the document)."""

from drawingoffice.closed import first_open
from drawingoffice.errors import NotCleared
from drawingoffice.fitness import check_start
from drawingoffice.joints import joined
from drawingoffice.tables import goes_wrong, table


def clearance(office, name, start):
    """The table of the program and the joint with the folded store, in which the definition cannot go wrong."""
    joint = joined(office, start)
    if goes_wrong(office.program, joint, name):
        raise NotCleared()
    return table(office.program, joint)


def clearance_holds(office, name, start, facts):
    """True if the facts show that the office is cleared."""
    joint = joined(office, start)
    check_start(office.program, joint, name)
    return (name, 0, ()) not in facts and first_open(office.program, joint, facts) is None
