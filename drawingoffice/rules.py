"""Rules, which watch the events of a history (points 53 and 54 of the document)."""

from drawingoffice.errors import BadRules, UnknownState
from drawingoffice.histories import least_parting


class Rules:
    """States and the next state after each event, with pairs of a state and an event that are barred.

    Rules never change.
    """

    def __init__(self, events, moves, barred):
        _check_rules(events, moves, barred)
        closed = {(state, event): True for state, event in barred}
        rows = []
        for number, row in enumerate(moves):
            rows.append([None if (number, name) in closed else target for name, target in zip(events, row)])
        # One row for each state, with None at each barred pair.
        self._rows = rows
        self._events = list(events)
        self._index_of = {name: at for at, name in enumerate(events)}

    @property
    def events(self):
        """The events in order."""
        return list(self._events)

    @property
    def moves(self):
        """For each state a list of the next states after the events, with 0 at each barred pair."""
        return [[target or 0 for target in row] for row in self._rows]

    @property
    def barred(self):
        """The barred pairs, ascending by state, then in the order of the events."""
        pairs = [(state, event) for state in range(len(self._rows)) for event in self._events]
        return [(state, event) for state, event in pairs if self.next_state(state, event) is None]

    def next_state(self, state, event):
        """The next state, or None if the pair is barred."""
        if not 0 <= state < len(self._rows):
            raise UnknownState(state)
        return self._rows[state][self._index_of[event]] if event in self._index_of else state

    def __call__(self, history):
        state = 0
        for event in history:
            state = self.next_state(state, event)
            if state is None:
                return None
        return state

    def __len__(self):
        return len(self._rows)

    def __and__(self, other):
        if not isinstance(other, Rules):
            return NotImplemented
        return _paired(self, other, 2)

    def __or__(self, other):
        if not isinstance(other, Rules):
            return NotImplemented
        return _paired(self, other, 1)

    def __le__(self, other):
        if not isinstance(other, Rules):
            return NotImplemented
        return least_parting(self, other) is None

    def __lt__(self, other):
        if not isinstance(other, Rules):
            return NotImplemented
        return least_parting(self, other) is None and least_parting(other, self) is not None

    def __ge__(self, other):
        if not isinstance(other, Rules):
            return NotImplemented
        return least_parting(other, self) is None

    def __gt__(self, other):
        if not isinstance(other, Rules):
            return NotImplemented
        return least_parting(other, self) is None and least_parting(self, other) is not None

    def __eq__(self, other):
        if not isinstance(other, Rules):
            return False
        return least_parting(self, other) is None and least_parting(other, self) is None


def _check_rules(events, moves, barred):
    """Raise BadRules unless the parts make rules."""
    if len(set(events)) != len(events):
        raise BadRules("events")
    entries = [target for row in moves for target in row]
    if len(moves) == 0 or not all([len(row) == len(events) for row in moves]):
        raise BadRules("moves")
    if not all([0 <= target < len(moves) for target in entries]):
        raise BadRules("moves")
    if not all([0 <= state < len(moves) and event in events for state, event in barred]):
        raise BadRules("barred")


def _paired(a, b, least):
    """The rules that let the histories that at least so many of the two let."""
    events = a.events + [event for event in b.events if event not in a.events]
    pairs = [(0, 0)]
    number_of = {(0, 0): 0}
    moves = []
    barred = []
    at = 0
    while at < len(pairs):
        row = []
        for event in events:
            pair = (_after(a, pairs[at][0], event), _after(b, pairs[at][1], event))
            if len([state for state in pair if state is not None]) < least:
                barred.append((at, event))
                row.append(0)
            else:
                if pair not in number_of:
                    number_of[pair] = len(pairs)
                    pairs.append(pair)
                row.append(number_of[pair])
        moves.append(row)
        at = at + 1
    return Rules(events, moves, barred)


def _after(rules, state, event):
    """The next state, or None if the event is barred or an earlier one was."""
    return None if state is None else rules.next_state(state, event)
