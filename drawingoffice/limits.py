"""Limits for the places of parts (point 35 of the document)."""

from drawingoffice.names import FRAME, is_name
from drawingoffice.texts import is_text

SIZES = {"room": 5, "reach": 4}


def is_limit(value):
    """True if the tuple is a limit."""
    if len(value) == 0 or value[0] not in SIZES or len(value) != SIZES[value[0]]:
        return False
    if value[1] == value[2] or not is_name(value[1]) or not is_name(value[2]):
        return False
    if value[0] == "room" and not is_text(value[3]):
        return False
    return _are_terms(value[-1][1])


def ascending(limits):
    """The limits in ascending order, each once."""
    return sorted(set(limits))


def _are_terms(terms):
    """True if the pairs are multiples of different measures in ascending order, none of them 0."""
    names = [name for name, times in terms]
    if not all([name != FRAME and is_name(name) for name in names]):
        return False
    if not all([one < two for one, two in zip(names, names[1:])]):
        return False
    return all([times != 0 for name, times in terms])
