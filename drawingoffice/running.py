"""Which goals, pairs of a state and an event, the runs of a program reach."""

from drawingoffice.bodies import written_bodies
from drawingoffice.solving import GENERAL, Solver

MOST_DEPTH = 2


class RunSolver(Solver):
    """Finds terms only as far as runs from one definition need them.

    What it finds of a definition is told apart by the arguments that are known: those that use no unknown names from
    around, not nested too deep. A context is a tuple with the number of such an argument for each parameter, or 0
    where it is unknown; of an unknown parameter only those ways are asked for that some argument has.
    """

    def __init__(self, program, joint, goals):
        super().__init__(program, joint, goals)
        self._contexts = [()]
        self._context_numbers = {(): GENERAL}
        # For each known argument its entry (number of a body, context, first own slot) and how deep it is nested.
        self._entries = [None]
        self._depths = [0]
        self._entry_numbers = {}
        # For each unknown parameter the arguments that it may stand for, and the cells that asked for them.
        self._sources = {}
        self._askers = {}

    def can_reach(self, name):
        """True if some run from the definition, which has no parameters, reaches a goal."""
        if not self._can_matter(0):
            return False
        root = self.root(name, 0)
        self.solve([root], until_found=True)
        return () in self.solution(root)

    def _entry_of(self, given, context):
        number = self._known_number(given, context)
        return self._entries[number] if number > 0 else super()._entry_of(given, context)

    def _entry_of_slot(self, context, slot):
        return self._entries[self._known_at(context, slot)]

    def _known_at(self, context, slot):
        """The number of the known argument that the name stands for, or 0."""
        numbers = self._contexts[context]
        return numbers[slot] if slot < len(numbers) else 0

    def _context_within(self, frame, givens, context):
        numbers = [self._known_number(given, context) for given in givens]
        inner = self._context_of(numbers)
        for slot, given in enumerate(givens):
            if numbers[slot] == 0 and frame.counts[slot] > 0:
                self._add_source((frame.name, inner, slot), (given.number, context))
        return inner

    def _context_of(self, numbers):
        key = tuple(numbers) if any(numbers) else ()
        if key not in self._context_numbers:
            self._context_numbers[key] = len(self._contexts)
            self._contexts.append(key)
        return self._context_numbers[key]

    def _known_number(self, given, context):
        """The number of the argument as a known one, or 0."""
        if given.slot is not None:
            return self._known_at(context, given.slot)
        if given.node is None:
            return self._entry_number((self._outline.roots[given.name].number, GENERAL, 0), 0)
        around = [self._known_at(context, slot) for slot in given.outer]
        depth = max([int(self._depths[number]) for number in around], default=-1) + 1
        if 0 in around or depth > MOST_DEPTH:
            return 0
        inner = [0] * (max([int(slot) for slot in given.outer], default=-1) + 1)
        for slot, number in zip(given.outer, around):
            inner[slot] = number
        return self._entry_number((given.node.number, self._context_of(inner), given.first), depth)

    def _entry_number(self, entry, depth):
        if entry not in self._entry_numbers:
            self._entry_numbers[entry] = len(self._entries)
            self._entries.append(entry)
            self._depths.append(depth)
        return self._entry_numbers[entry]

    def _add_source(self, place, source):
        sources = self._sources.setdefault(place, {})
        if source not in sources:
            sources[source] = True
            for asker in self._askers.get(place, {}):
                self._put_due(asker)

    def _open_ways(self, frame, slot, state, context):
        if frame.counts[slot] == 0:
            return [(state,)]
        ways = {}
        for node, inner_context, first in self._closures_for((frame.name, context, slot)):
            for term in self._look((node.number, state, inner_context)):
                own = [(atom[0] - first, atom[1][0]) for atom in term if atom[0] >= first]
                ways[(state,) + (own[0] if own else ())] = True
        return list(ways)

    def _closures_for(self, place):
        """The bodies, contexts and first own slots of all closures that the unknown parameter may stand for."""
        found = []
        places = {place: True}
        due = [place]
        while due:
            here = due.pop()
            self._askers.setdefault(here, {})[self._now] = True
            for number, context in list(self._sources.get(here, {})):
                given = self._outline.givens[number]
                if given.node is not None:
                    found.append((given.node, context, given.first))
                elif (given.frame.name, context, given.slot) not in places:
                    places[(given.frame.name, context, given.slot)] = True
                    due.append((given.frame.name, context, given.slot))
        return found


def can_reach(program, joint, name, goals):
    """True if some run that starts at the definition, which has no parameters, does one of the goals."""
    return RunSolver(program, joint, goals).can_reach(name)


def reached_goals(program, joint, name, goals):
    """All goals that some run does that starts at the definition."""
    done = {body[1]: True for body in written_bodies(program) if body[0] == "do"}
    return _reached_of(program, joint, name, [goal for goal in goals if goal[1] in done])


def _reached_of(program, joint, name, goals):
    if not goals or not can_reach(program, joint, name, goals):
        return []
    if len(goals) == 1:
        return goals
    middle = len(goals) // 2
    return _reached_of(program, joint, name, goals[:middle]) + _reached_of(program, joint, name, goals[middle:])
