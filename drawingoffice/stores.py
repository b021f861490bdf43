"""Stores of drawings (point 43 of the document)."""

from drawingoffice.errors import BadRun, BadStore, UnknownStart
from drawingoffice.names import is_name
from drawingoffice.runs import is_run


class Store:
    """Contents, starts that stand on them, and moves that lead from one to another; it never changes."""

    def __init__(self, contents, starts, moves):
        if not _are_right(contents, starts, moves):
            raise BadStore()
        self._contents = contents
        self._starts = {name: starts[name] for name in sorted([str(name) for name in starts])}
        self._moves = sorted(set(list(moves)))
        targets = {}
        for source, name, target in self._moves:
            targets[(source, "+" + name)] = target
            targets[(target, "-" + name)] = source
        self._targets = targets

    @property
    def contents(self):
        """The number of contents."""
        return self._contents

    @property
    def starts(self):
        """The content of each start; the names ascend."""
        return dict(self._starts)

    @property
    def moves(self):
        """The moves (source, name, target), ascending by source, then by name."""
        return list(self._moves)

    def end(self, run):
        """The content at which the run ends, or None if it fails."""
        if not is_run(run):
            raise BadRun(run)
        if run[0] not in self._starts:
            raise UnknownStart(run[0])
        content = self._starts[run[0]]
        for step in run[1:]:
            content = self._targets.get((content, step))
        return content

    def target(self, content, step):
        """The content to which the step leads from the content, or None."""
        return self._targets.get((content, step))

    def __eq__(self, other):
        if not isinstance(other, Store) or self._contents != other._contents:
            return False
        return self._starts == other._starts and self._moves == other._moves


def _are_right(contents, starts, moves):
    """True if the parts make a store."""
    names = list(starts) + [name for source, name, target in moves]
    sources = [source for source, name, target in moves]
    targets = [target for source, name, target in moves]
    used = [starts[name] for name in starts] + sources + targets
    if not all([is_name(name) for name in names]) or not all([0 <= content < contents for content in used]):
        return False
    ways_out = [(source, name) for source, name, target in moves]
    ways_in = [(target, name) for source, name, target in moves]
    return len(set(ways_out)) == len(moves) and len(set(ways_in)) == len(moves)
