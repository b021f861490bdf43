"""Changes of sheets (points 37 to 39 of the document)."""

from drawingoffice.errors import BadChange, BadLimit, DoesNotGo
from drawingoffice.limits import ascending, is_limit
from drawingoffice.runs import check_names
from drawingoffice.sheets import sheet_of

# Whether a touched limit stands on the sheet before the change, and whether it stands there after it.
LOST = (True, False)
GAINED = (False, True)
KEPT = (True, True)
BARRED = (False, False)


class Change:
    """What some limits must be on a sheet before it, and what they are after it; it never changes."""

    def __init__(self, lost=(), gained=(), *, kept=(), barred=()):
        ways = {}
        for way, limits in ((LOST, lost), (GAINED, gained), (KEPT, kept), (BARRED, barred)):
            for value in limits:
                if not is_limit(value):
                    raise BadLimit(value)
                if ways.get(value, way) != way:
                    raise BadChange(value)
                ways[value] = way
        self._ways = {limit: ways[limit] for limit in ascending(list(ways))}
        self._is_void = False

    @classmethod
    def nowhere(cls):
        """The void change, which goes on no sheet."""
        return _made({}, True)

    @property
    def lost(self):
        """The limits that stand on the sheet before the change and not after it."""
        return [limit for limit in self._ways if self._ways[limit] == LOST]

    @property
    def gained(self):
        """The limits that do not stand on the sheet before the change but after it."""
        return [limit for limit in self._ways if self._ways[limit] == GAINED]

    @property
    def kept(self):
        """The limits that stand on the sheet before the change and after it."""
        return [limit for limit in self._ways if self._ways[limit] == KEPT]

    @property
    def barred(self):
        """The limits that stand on the sheet neither before the change nor after it."""
        return [limit for limit in self._ways if self._ways[limit] == BARRED]

    @property
    def touched(self):
        """The limits of all four lists, in ascending order."""
        return list(self._ways)

    @property
    def is_void(self):
        """True for the void change alone."""
        return self._is_void

    def __contains__(self, x):
        return not self._is_void and first_wrong(self, x) is None

    def __call__(self, sheet):
        if sheet not in self:
            raise DoesNotGo(first_wrong(self, sheet))
        return sheet_after(self, sheet)

    def __add__(self, other):
        if not isinstance(other, Change):
            return NotImplemented
        if self._is_void or other._is_void:
            return _made({}, True)
        ways = {limit: self._ways[limit] for limit in self._ways}
        for limit in other._ways:
            before, after = other._ways[limit]
            if limit in self._ways:
                if self._ways[limit][1] != before:
                    return _made({}, True)
                before = self._ways[limit][0]
            ways[limit] = (before, after)
        return _made(ways, False)

    def __neg__(self):
        return _made({limit: self._ways[limit][::-1] for limit in self._ways}, self._is_void)

    def __le__(self, other):
        if not isinstance(other, Change):
            return NotImplemented
        if self._is_void or other._is_void:
            return self._is_void
        # Where only this change touches a limit, the other one leaves it as it is.
        for limit in self._ways:
            if limit not in other._ways and self._ways[limit] not in (KEPT, BARRED):
                return False
        return all([self._ways.get(limit) == other._ways[limit] for limit in other._ways])

    def __eq__(self, other):
        return isinstance(other, Change) and self._is_void == other._is_void and self._ways == other._ways


def first_wrong(change, sheet):
    """The least touched limit that is on the sheet and must not be, or the other way round; None if there is none."""
    for limit in change._ways:
        if (limit in sheet) != change._ways[limit][0]:
            return limit
    return None


def sheet_after(change, sheet):
    """What a change leaves of a sheet on which it goes."""
    lost, gained = change.lost, change.gained
    if not lost and not gained:
        return sheet
    return sheet_of([limit for limit in sheet if limit not in lost] + gained)


def change_of(changes, steps):
    """The change that the revision steps make one after the other."""
    check_names([step[1:] for step in steps], changes)
    total = Change()
    for step in steps:
        change = changes[step[1:]]
        total = total + (change if step[0] == "+" else -change)
    return total


def _made(ways, is_void):
    """The change with these pairs of before and after."""
    made = Change()
    made._ways = {limit: ways[limit] for limit in ascending(list(ways))}
    made._is_void = is_void
    return made
