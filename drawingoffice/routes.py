"""Routes, in which the copies of released drawings are set (point 55 of the document)."""

from drawingoffice.errors import BadEnds, BadPosition, BadWidening, NameTaken, UnknownName
from drawingoffice.names import check_name


class Route:
    """Measure steps, late steps and part steps in order; it never changes."""

    def __init__(self, steps):
        names = {}
        for step in steps:
            check_name(step[1])
            if step[1] in names:
                raise NameTaken(step[1])
            names[step[1]] = True
            if step[0] == "measure" and step[2] > step[3]:
                raise BadEnds(step[2], step[3])
        self._steps = list(steps)

    @property
    def steps(self):
        """The steps in order."""
        return list(self._steps)

    def widened(self, *, by):
        """The route in which each measure has the ends `low - by` and `high + by`."""
        if by < 0:
            raise BadWidening(by)
        return Route([_widened_step(step, by) for step in self._steps])

    def moved(self, name, *, to):
        """The route in which the measure step or late step has the index `to`."""
        found = [step for step in self._steps if step[0] != "part" and step[1] == name]
        if not found:
            raise UnknownName(name)
        if not 0 <= to < len(self._steps):
            raise BadPosition(to)
        others = [step for step in self._steps if step[1] != name]
        return Route(others[:to] + found + others[to:])

    def late_rows(self):
        """All tuples with one option for each late step, in ascending order."""
        rows = [()]
        for options in self._late_options():
            rows = [row + (option,) for row in rows for option in range(len(options))]
        return rows

    def late_run(self, row):
        """The revision steps of the options of the row, one option after the other."""
        return tuple([step for options, option in zip(self._late_options(), row) for step in options[option]])

    def _late_options(self):
        return [step[2] for step in self._steps if step[0] == "late"]


def _widened_step(step, by):
    return ("measure", step[1], step[2] - by, step[3] + by) if step[0] == "measure" else step
