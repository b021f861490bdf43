"""Which states of a joint can lead to wrong events (point 65 of the document)."""


class Hazards:
    """The states from which one of the goals, pairs of a state and an event, can be reached by events that lead on."""

    def __init__(self, joint, goals):
        states = range(len(joint.pairs))
        events = joint.events
        self._targets = [_targets_of(joint, state, events) for state in states]
        self._from = {}
        sources = [[] for _ in states]
        for state in states:
            for target in self._targets[state]:
                sources[target].append(state)
        self._is_unsafe = {state: True for state, _ in goals}
        due = list(self._is_unsafe)
        while due:
            here = due.pop()
            for source in sources[here]:
                if source not in self._is_unsafe:
                    self._is_unsafe[source] = True
                    due.append(source)

    def is_unsafe(self, state):
        """True if a goal can be reached from the state."""
        return state in self._is_unsafe

    def unsafe_from(self, state):
        """The states that can be reached from the state and are not harmless, in ascending order."""
        if state not in self._from:
            due = [state]
            seen = {state: True}
            while due:
                here = due.pop()
                for target in self._targets[here]:
                    if target not in seen:
                        seen[target] = True
                        due.append(target)
            self._from[state] = sorted([int(other) for other in seen if other in self._is_unsafe])
        return list(self._from[state])


def _targets_of(joint, state, events):
    """The states to which the events lead on from the state, each once."""
    found = {joint.next_state(state, event): True for event in events}
    return [target for target in found if target is not None]
