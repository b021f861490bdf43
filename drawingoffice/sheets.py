"""Sheets, which are sets of limits (point 36 of the document)."""

from drawingoffice.errors import BadLimit
from drawingoffice.limits import ascending, is_limit


class Sheet:
    """A set of limits; it never changes."""

    def __init__(self, limits):
        for value in limits:
            if not is_limit(value):
                raise BadLimit(value)
        self._limits = ascending(list(limits))
        self._has = {limit: True for limit in self._limits}

    def __iter__(self):
        return iter(self._limits)

    def __len__(self):
        return len(self._limits)

    def __contains__(self, x):
        # What is not a limit may hold what no dict can be asked for.
        return is_limit(x) and x in self._has

    def __or__(self, other):
        if not isinstance(other, Sheet):
            return NotImplemented
        return sheet_of(self._limits + other._limits)

    def __and__(self, other):
        if not isinstance(other, Sheet):
            return NotImplemented
        return sheet_of([limit for limit in self._limits if limit in other._has])

    def __sub__(self, other):
        if not isinstance(other, Sheet):
            return NotImplemented
        return sheet_of([limit for limit in self._limits if limit not in other._has])

    def __le__(self, other):
        if not isinstance(other, Sheet):
            return NotImplemented
        return all([limit in other._has for limit in self._limits])

    def __eq__(self, other):
        return isinstance(other, Sheet) and self._limits == other._limits


def sheet_of(limits):
    """The sheet of these limits, which are known to be limits."""
    made = Sheet([])
    made._limits = ascending(limits)
    made._has = {limit: True for limit in made._limits}
    return made
