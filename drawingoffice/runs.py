"""Revision steps, runs and their prefixes (points 42 and 47 of the document)."""

from drawingoffice.errors import UnknownChange, UnknownStart
from drawingoffice.names import is_name


def is_step(text):
    """True if the string is a revision step."""
    return text[:1] in ("+", "-") and is_name(text[1:])


def is_run(run):
    """True if the tuple of strings is the name of a start and zero or more revision steps."""
    return len(run) > 0 and is_name(run[0]) and all([is_step(step) for step in run[1:]])


def opposite_step(step):
    """The step with the other sign."""
    return ("-" if step[0] == "+" else "+") + step[1:]


def prefixes(run):
    """The first items of the run, at least one, from the shortest prefix to the run itself."""
    return [run[:size] for size in range(1, len(run) + 1)]


def leads(place, step, target):
    """True if the place leads by the step to the target."""
    return target == place + (step,) or place == target + (opposite_step(step),)


def check_runs(runs, starts, changes):
    """Raise an error unless all runs begin at one of the starts and all their steps are made by the changes."""
    for run in runs:
        if run[0] not in starts:
            raise UnknownStart(run[0])
    check_names([step[1:] for run in runs for step in run[1:]], changes)


def check_names(names, changes):
    """Raise UnknownChange for the first name that has no change."""
    for name in names:
        if name not in changes:
            raise UnknownChange(name)
