"""Forms: a constant plus multiples of measures (points 6 to 9 of the document)."""

from drawingoffice.errors import BadEnds, UnknownName, UnlikeEnds
from drawingoffice.names import check_name


class Form:
    """A constant plus a sum of multiples of measures; it never changes.

    `terms` has one tuple (name, times, low, high) for each measure, in ascending order of the names.
    """

    def __init__(self, constant):
        self.constant = constant
        self.terms = ()

    def __add__(self, other):
        if isinstance(other, int):
            return form_of(self.constant + other, self.terms)
        if not isinstance(other, Form):
            return NotImplemented
        _check_ends(self.terms, other.terms)
        return form_of(self.constant + other.constant, _added(self.terms, other.terms))

    def __radd__(self, other):
        return self + other

    def __sub__(self, other):
        if not isinstance(other, (int, Form)):
            return NotImplemented
        return self + other * -1

    def __rsub__(self, other):
        return self * -1 + other

    def __mul__(self, other):
        if not isinstance(other, int):
            return NotImplemented
        if other == 0:
            return Form(0)
        terms = [(name, times * other, low, high) for name, times, low, high in self.terms]
        return form_of(self.constant * other, terms)

    def __rmul__(self, other):
        return self * other

    def __neg__(self):
        return self * -1

    def __eq__(self, other):
        return isinstance(other, Form) and self.constant == other.constant and self.terms == other.terms

    def __le__(self, other):
        if not isinstance(other, (int, Form)):
            return NotImplemented
        return (self - other).most <= 0

    def __ge__(self, other):
        if not isinstance(other, (int, Form)):
            return NotImplemented
        return (self - other).least >= 0

    @property
    def least(self):
        """The least value over all values of the measures."""
        return self.constant + sum([times * (low if times > 0 else high) for name, times, low, high in self.terms])

    @property
    def most(self):
        """The greatest value over all values of the measures."""
        return self.constant + sum([times * (high if times > 0 else low) for name, times, low, high in self.terms])

    def value(self, values):
        """The value of the form where the dict gives the values of the measures."""
        total = self.constant
        for name, times, low, high in self.terms:
            if name not in values:
                raise UnknownName(name)
            total = total + times * values[name]
        return total


def form_of(constant, terms):
    """The form with this constant and these terms, which ascend and have no multiple 0."""
    made = Form(constant)
    made.terms = tuple(terms)
    return made


def measured(name, *, low, high):
    """The form that is one time the measure."""
    check_name(name)
    if low > high:
        raise BadEnds(low, high)
    return form_of(0, [(name, 1, low, high)])


def _check_ends(first, second):
    ends = {name: (low, high) for name, times, low, high in first}
    for name, times, low, high in second:
        if name in ends and ends[name] != (low, high):
            raise UnlikeEnds(name)


def _added(first, second):
    """The terms of both lists of terms together; where the multiples of a measure add up to 0, it is left out."""
    sums = {}
    ends = {}
    for name, times, low, high in first + second:
        sums[name] = sums.get(name, 0) + times
        ends[name] = (low, high)
    names = sorted([str(key) for key in sums])
    return [(key, sums[key]) + ends[key] for key in names if sums[key] != 0]
