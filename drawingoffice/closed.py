"""Lists of facts of a program that are checked (points 66 and 67 of the document)."""

from drawingoffice.fitness import check_fit
from drawingoffice.solving import Solver
from drawingoffice.terms import is_covered


class Checker(Solver):
    """Tells what rests on the facts that were given so far.

    If ways of the parameters are granted, only these are; otherwise terms tell what must be granted.
    """

    def __init__(self, program, joint):
        super().__init__(program, joint, joint.wrong)
        self._names = {self.root(name, 0)[0]: name for name in program.names}
        # The needs of the given facts by their names and states.
        self._needs = {}
        self._granted = None

    def give(self, fact):
        """Give a fact, which may be false."""
        name, state, needs = fact
        self._needs.setdefault((name, state), []).append(needs)

    def is_implied(self, fact):
        """True if a given fact implies the fact."""
        name, state, needs = fact
        return any([is_covered(needs, other) for other in self._needs.get((name, state), [])])

    def rests(self, fact):
        """True if the fact rests on the given ones."""
        name, state, needs = fact
        self._terms = {}
        self._readers = {}
        self._granted = {need: True for need in needs}
        root = self.root(name, state)
        self.solve([root])
        return len(self.solution(root)) > 0

    def _look(self, cell):
        if cell[0] in self._names:
            return list(self._needs.get((self._names[cell[0]], cell[1]), []))
        return super()._look(cell)

    def _can_matter(self, state):
        # The given facts may be false, so they may tell that something goes wrong from a harmless state.
        return True

    def _granting(self, frame, slot, way):
        if self._granted is None or frame.groups[slot] is not None:
            return super()._granting(frame, slot, way)
        is_granted = (slot, way) in self._granted or (slot, way[:1]) in self._granted
        return [()] if is_granted else []


def first_open(program, joint, facts):
    """A fact that rests on the facts and that none of them implies, or None."""
    check_fit(program, joint)
    checker = Checker(program, joint)
    for fact in facts:
        checker.give(fact)
    places = [(name, state) for name in program.names for state in range(len(joint.pairs))]
    checker.solve([checker.root(name, state) for name, state in places])
    for name, state in places:
        for needs in checker.solution(checker.root(name, state)):
            if not checker.is_implied((name, state, needs)):
                return name, state, needs
    return None


def first_unfounded(program, joint, facts):
    """The index of the first fact that does not rest on the facts before it, or None."""
    check_fit(program, joint)
    checker = Checker(program, joint)
    for at, fact in enumerate(facts):
        if not checker.rests(fact):
            return at
        checker.give(fact)
    return None
