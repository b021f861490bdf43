"""Refusals, which tell why an office is not cleared (point 71 of the document)."""


class Refusal:
    """One run that goes wrong, the store in which it does, and why its last event is wrong."""

    def __init__(self, steps, run, store, *, kind, late=None, card=None, lines=()):
        self._steps = list(steps)
        self._store = store
        self._lines = list(lines)
        self.run = run
        self.kind = kind
        self.late = late
        self.card = card

    @property
    def steps(self):
        """The steps of the run."""
        return list(self._steps)

    @property
    def events(self):
        """The events of the run."""
        return [step[1] for step in self._steps if step[0] == "do"]

    @property
    def store(self):
        """The folded store of the binder."""
        return self._store

    @property
    def derivation(self):
        """For the kind limit a derivation that holds for the card, otherwise an empty list."""
        return list(self._lines)
