"""What must be granted so that the bodies of a program go wrong (points 65 and 66 of the document)."""

from drawingoffice.hazards import Hazards
from drawingoffice.joints import is_met
from drawingoffice.outlines import Outline
from drawingoffice.terms import Terms, merged

TESTS = ("when", "mode", "shows")
GENERAL = 0


class Solver:
    """Finds the least terms of cells.

    A cell is a triple (number of a body, state, context); its least terms tell when the body goes wrong from the
    state, which means that one of the goals is reached. In the context GENERAL nothing is known of the parameters.
    Each term has a reason that tells how it came about; it names only terms that were found before.

    The reason of a term of a call is a tuple: of a definition or of a known closure ("enter", cell, term, backings),
    of another name ("ask", atom, backings). `backings` has a pair (atom, backing) for each way of an argument that is
    used; the slot of the atom is that of the callee, or after "ask" the number of the argument. A backing is (atom,)
    for a way of a name that is handed on, otherwise (cell, term, first slot of the closure). The reason of other terms
    is (index of the body, cell, term), or None where a goal is reached.
    """

    def __init__(self, program, joint, goals):
        self._outline = Outline(program)
        self._joint = joint
        self._goals = {goal: True for goal in goals}
        self._hazards = Hazards(joint, goals)
        self._terms = {}
        self._readers = {}
        self._due = []
        self._is_due = {}
        self._now = None

    def root(self, name, state):
        """The cell of the body of a definition."""
        return self._outline.roots[name].number, state, GENERAL

    def node_of(self, cell):
        """The node of a cell."""
        return self._outline.nodes[cell[0]]

    def reason(self, cell, term):
        """How the term of the cell came about."""
        return self._terms[cell].told(term)

    def solve(self, cells, *, until_found=False):
        """Find the least terms of the cells; if so told, only until one of them has the empty term."""
        for cell in cells:
            self._ask_for(cell)
        while self._due:
            cell = self._due.pop()
            del self._is_due[cell]
            self._settle(cell)
            if until_found and cell in cells and self._terms[cell].covers(()):
                return

    def solution(self, cell):
        """The least terms of a cell that were found."""
        return list(self._terms[cell])

    def _ask_for(self, cell):
        if cell not in self._terms:
            self._terms[cell] = Terms()
            self._readers[cell] = {}
            self._put_due(cell)

    def _put_due(self, cell):
        if cell not in self._is_due:
            self._is_due[cell] = True
            self._due.append(cell)

    def _settle(self, cell):
        """Find what follows for the cell from the terms of other cells."""
        self._now = cell
        terms = self._terms[cell]
        is_new = False
        for term, reason in self._weighed(cell):
            if not terms.covers(term):
                terms.put(term, reason)
                is_new = True
        if is_new:
            for reader in self._readers[cell]:
                self._put_due(reader)

    def _look(self, cell):
        """The terms of another cell that are known now; the present cell is due again when there are more."""
        self._ask_for(cell)
        self._readers[cell][self._now] = True
        return list(self._terms[cell])

    def _weighed(self, cell):
        """Pairs of a term of the cell and its reason."""
        number, state, context = cell
        node = self._outline.nodes[number]
        if node.body[0] == "call":
            if node.slot is None:
                return self._of_definition(node, state, context)
            entry = self._entry_of_slot(context, node.slot)
            if entry is None:
                return self._of_name(node, state, context)
            return self._of_closure(node, entry, state, context)
        if node.body[0] == "do":
            return self._of_event(node, state, context)
        if node.body[0] in TESTS and not is_met(self._joint, state, node.body):
            return []
        found = []
        for index, inner in enumerate(node.inner):
            below = (inner.number, state, context)
            found.extend([(term, (index, below, term)) for term in self._look(below)])
        return found

    def _of_event(self, node, state, context):
        event = node.body[1]
        found = [((), None)] if (state, event) in self._goals else []
        target = self._joint.next_state(state, event)
        if target is not None and self._can_matter(target):
            below = (node.inner[0].number, target, context)
            found.extend([(term, (0, below, term)) for term in self._look(below)])
        return found

    def _of_definition(self, node, state, context):
        """Of a call of a definition: each of its terms, with the arguments that have the ways."""
        root = self._outline.roots[node.body[1]]
        below = (root.number, state, self._context_within(root.frame, node.givens, context))
        found = []
        for needs in self._look(below):
            joins = [((), ())]
            for slot, way in needs:
                ways = self._having(node.givens[slot], way, context)
                joins = self._joined(joins, (slot, way), ways, node.frame.groups)
            found.extend([(term, ("enter", below, needs, backings)) for term, backings in joins])
        return found

    def _of_name(self, node, state, context):
        """Of a call of a name of which nothing is known: each way that it may have from this state."""
        found = []
        for way in self._open_ways(node.frame, node.slot, state, context):
            joins = [(term, ()) for term in self._granting(node.frame, node.slot, way)]
            if joins and len(way) == 3:
                ways = self._having(node.givens[way[1]], way[2:], context)
                joins = self._joined(joins, (way[1], way[2:]), ways, node.frame.groups)
            found.extend([(term, ("ask", (node.slot, way), backings)) for term, backings in joins])
        return found

    def _of_closure(self, node, entry, state, context):
        """Of a call of a name that stands for a closure that is known and uses no unknown names from around."""
        number, inner_context, first = entry
        below = (number, state, inner_context)
        found = []
        for own in self._look(below):
            joins = [((), ())]
            if len(own) == 1:
                slot, way = own[0]
                ways = self._having(node.givens[slot - first], way, context)
                joins = self._joined(joins, own[0], ways, node.frame.groups)
            if len(own) <= 1:
                found.extend([(term, ("enter", below, own, backings)) for term, backings in joins])
        return found

    def _joined(self, joins, atom, ways, groups):
        """The joins, pairs of a term and backings, each one with each of the ways by which an argument has the atom.

        Those that another one or a term that the present cell has already makes needless are left out.
        """
        known = self._terms[self._now]
        found = Terms()
        for term, backings in joins:
            for more, backing in ways:
                both = merged(term, more, groups)
                if both is not None and not known.covers(both) and not found.covers(both):
                    found.put(both, backings + ((atom, backing),))
        return [(term, found.told(term)) for term in found]

    def _having(self, given, way, context):
        """When the argument has the way: pairs of a term and a backing."""
        entry = self._entry_of(given, context)
        if entry is None:
            terms = self._granting(given.frame, given.slot, way)
            return [(term, ((given.slot, way),)) for term in terms]
        number, inner_context, first = entry
        below = (number, way[0], inner_context)
        wanted = ((first + way[1], way[2:]),) if len(way) == 3 else ()
        found = []
        for term in self._look(below):
            own = tuple([atom for atom in term if atom[0] >= first])
            if own in ((), wanted):
                found.append((term[:len(term) - len(own)], (below, term, first)))
        return found

    def _entry_of(self, given, context):
        """The body, the context and the first own slot of an argument, or None if nothing is known of it."""
        if given.node is not None:
            return given.node.number, context, given.first
        if given.slot is not None:
            return self._entry_of_slot(context, given.slot)
        return self._outline.roots[given.name].number, GENERAL, 0

    def _entry_of_slot(self, context, slot):
        """The entry of what is known to stand for the name in the context, or None."""
        return None

    def _context_within(self, frame, givens, context):
        """The context within a definition that is called with the arguments."""
        return GENERAL

    def _can_matter(self, state):
        """True if something can go wrong from the state."""
        return self._hazards.is_unsafe(state)

    def _granting(self, frame, slot, way):
        """The terms by which the name has the way, if it may have it."""
        return [((slot, way),)] if self._hazards.is_unsafe(way[0]) else []

    def _open_ways(self, frame, slot, state, context):
        """The ways from this state that may be granted of the name."""
        targets = self._hazards.unsafe_from(state)
        return [(state,)] + [(state, at, target) for at in range(frame.counts[slot]) for target in targets]
