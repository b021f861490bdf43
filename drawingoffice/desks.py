"""Desks, which keep an office that can be replaced (points 76 and 77 of the document)."""

from drawingoffice.clearing import verdict
from drawingoffice.errors import BadFact
from drawingoffice.facts import is_fact


class Desk:
    """An office that more can be seen, waived, bound and taught of."""

    def __init__(self, office):
        self._office = office

    @property
    def office(self):
        """The present office."""
        return self._office

    def see(self, fact):
        """Add a fact to the end of the facts of the binder."""
        self._office = _with_seen(self._office, fact)

    def waive(self, limit):
        """Add a limit to the end of the waived ones."""
        self._office = _with_waived(self._office, limit)

    def bind(self, rules):
        """Let only histories that these rules let, too."""
        self._office = _with_bound(self._office, rules)

    def teach(self, definitions):
        """Extend the program."""
        self._office = self._office.replaced(program=self._office.program.extended(definitions))

    def ask(self, name, start, *, facts=(), waived=(), rules=None):
        """The verdict that holds while these things are supposed."""
        return verdict(_supposed(self._office, facts, waived, rules), name, start)


class Supposing:
    """A block in which more is seen, waived and bound at a desk."""

    def __init__(self, desk, *, facts=(), waived=(), rules=None):
        self._desk = desk
        self._facts = list(facts)
        self._limits = list(waived)
        self._bound = rules
        self._before = None

    def __enter__(self):
        desk = self._desk
        before = desk.office
        desk._office = _supposed(before, self._facts, self._limits, self._bound)
        self._before = before
        return desk

    def __exit__(self, kind, value, trace):
        desk = self._desk
        desk._office = self._before


def _supposed(office, facts, waived, rules):
    """The office in which the facts are seen, then the limits waived, then the rules bound."""
    for fact in facts:
        office = _with_seen(office, fact)
    for limit in waived:
        office = _with_waived(office, limit)
    return office if rules is None else _with_bound(office, rules)


def _with_seen(office, fact):
    if not is_fact(fact):
        raise BadFact(0)
    return office.replaced(binder=office.binder + [fact])


def _with_waived(office, limit):
    return office.replaced(waived=office.waived + [limit])


def _with_bound(office, rules):
    return office.replaced(rules=office.rules & rules)
