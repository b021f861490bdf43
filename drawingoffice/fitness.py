"""Whether a program fits a joint (point 64 of the document)."""

from drawingoffice.bodies import check_bodies
from drawingoffice.errors import NeedsArguments, UnknownName
from drawingoffice.joints import count_modes


def check_fit(program, joint, names=()):
    """Raise an error unless the program fits the joint and has definitions with the names."""
    check_bodies(program, {event: True for event in joint.events}, count_modes(joint), len(joint.pairs))
    for name in names:
        if name not in program:
            raise UnknownName(name)


def check_start(program, joint, name):
    """Raise an error unless the program fits the joint and a run can start at the definition."""
    check_fit(program, joint, [name])
    if program[name][1]:
        raise NeedsArguments(name)
