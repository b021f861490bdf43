"""Stocks: what stacks are long after all replacements (point 56 of the document)."""

from drawingoffice.resting import rest


class Stock:
    """A catalog and a list of replacements; it never changes."""

    def __init__(self, catalog, steps, *, most_runs=4, most=1000):
        self._catalog = catalog
        self._steps = steps
        self._resting = rest(steps, most_runs=most_runs, most=most)

    @property
    def catalog(self):
        """The catalog."""
        return self._catalog

    @property
    def steps(self):
        """The list of replacements."""
        return self._steps

    @property
    def resting(self):
        """The list of replacements, run until nothing changes any more."""
        return self._resting

    def length(self, stack):
        """The length of the text that is left of the stack."""
        resting = self._resting
        return self._catalog.length(resting(stack))
