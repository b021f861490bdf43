"""Runs that go wrong, step by step (point 67 of the document)."""

from drawingoffice.errors import NoRun
from drawingoffice.fitness import check_start
from drawingoffice.running import RunSolver


class Backing:
    """How a name has a way: the cell and the term by which its closure has it.

    `around` has the backings of the atoms from around the closure, `first` the first own slot of the closure.
    """

    def __init__(self, cell, term, around, first):
        self.cell = cell
        self.term = term
        self.around = around
        self.first = first


class Guide:
    """A run that goes wrong, up to where it is now: a cell, one of its terms, and the backings of its atoms."""

    def __init__(self, solver, name):
        self._solver = solver
        self._cell = solver.root(name, 0)
        self._term = ()
        self._backings = {}
        self._is_over = False

    def is_over(self):
        """True if the last step is behind the run."""
        return self._is_over

    def step(self):
        """Go on by one body; return its step, or None if it has none."""
        body = self._solver.node_of(self._cell).body
        reason = self._solver.reason(self._cell, self._term)
        if body[0] == "call":
            if reason[0] == "enter":
                self._enter(reason)
            else:
                self._ask(reason)
            return "call", body[1]
        if reason is None:
            self._is_over = True
            return "do", body[1]
        index, self._cell, self._term = reason
        if body[0] == "choose":
            return "choose", index
        return ("do", body[1]) if body[0] == "do" else None

    def _enter(self, reason):
        """Enter a definition or a closure that uses no unknown names from around."""
        _, cell, term, used = reason
        self._backings = {atom: self._backing_of(backing) for atom, backing in used}
        self._cell = cell
        self._term = term

    def _ask(self, reason):
        """Enter the closure that the called name stands for now."""
        _, atom, used = reason
        closure = self._backing_of((atom,))
        around = {other: closure.around[other] for other in closure.around}
        for (index, way), backing in used:
            around[(closure.first + index, way)] = self._backing_of(backing)
        self._backings = around
        self._cell = closure.cell
        self._term = closure.term

    def _backing_of(self, backing):
        """The backing with all that it needs from here."""
        if len(backing) == 1:
            slot, way = backing[0]
            # Whoever has the way (p,) has every way (p, i, q), too.
            return self._backings[(slot, way)] if (slot, way) in self._backings else self._backings[(slot, way[:1])]
        cell, term, first = backing
        around = {atom: self._backing_of((atom,)) for atom in term if atom[0] < first}
        return Backing(cell, term, around, first)


def steps_to_wrong(program, joint, name):
    """The steps of one run that starts at the definition and goes wrong."""
    check_start(program, joint, name)
    solver = RunSolver(program, joint, joint.wrong)
    if not solver.can_reach(name):
        raise NoRun()
    guide = Guide(solver, name)
    while not guide.is_over():
        step = guide.step()
        if step is not None:
            yield step
