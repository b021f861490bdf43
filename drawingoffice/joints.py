"""Joints of the contents of a store and the states of the rules (point 62 of the document)."""

from drawingoffice.bearing import sheets_of
from drawingoffice.binders import fits
from drawingoffice.errors import DoesNotFit, UnknownEvent, UnknownStart, UnknownState
from drawingoffice.offices import RELEASE, all_events
from drawingoffice.releases import Shop


class Joint:
    """Pairs of a content and a mode, and what each event does there; it never changes.

    `targets` has the next state of each pair (state, event) that leads on, `wrong` the pairs that are wrong, and
    `sheets` the sheet that stands in each state. `mode_count` is the number of the modes.
    """

    def __init__(self, pairs, events, targets, wrong, sheets, mode_count):
        self._pairs = list(pairs)
        self._events = list(events)
        self._known = {event: True for event in self._events}
        self._targets = {pair: targets[pair] for pair in targets}
        self._wrong = {pair: True for pair in wrong}
        self._sheets = list(sheets)
        self._mode_count = mode_count

    @property
    def pairs(self):
        """The pairs (content, mode) of the states."""
        return list(self._pairs)

    @property
    def events(self):
        """The events in ascending order."""
        return list(self._events)

    @property
    def wrong(self):
        """The pairs (state, event) that are wrong, ascending by state, then in the order of the events."""
        return list(self._wrong)

    def next_state(self, state, event):
        """The next state, or None if the event is ended or wrong there."""
        if not 0 <= state < len(self._pairs):
            raise UnknownState(state)
        if event not in self._known:
            raise UnknownEvent(event)
        return self._targets.get((state, event))

    def judged(self, pairs):
        """The joint in which exactly these pairs are wrong, as far as they are not ended."""
        asked = {pair: True for pair in pairs}
        places = [(state, event) for state in range(len(self._pairs)) for event in self._events]
        alive = [place for place in places if place in self._targets or place in self._wrong]
        wrong = [place for place in alive if place in asked]
        targets = {place: self._targets[place] for place in self._targets if place not in asked}
        return Joint(self._pairs, self._events, targets, wrong, self._sheets, self._mode_count)


def joined(office, start, *, store=None, checked=True):
    """The joint of the office, the start and the store, by default the folded store."""
    binder = office.binder
    if start not in binder.drawings:
        raise UnknownStart(start)
    if store is None:
        return _walked(office, binder.store, binder.sheets, start, checked)
    if not fits(binder, store):
        raise DoesNotFit()
    return _walked(office, store, sheets_of(store, binder.drawings, binder.changes), start, checked)


def count_modes(joint):
    """The number of states of the rules."""
    return joint._mode_count


def is_wrong(joint, state, event):
    """True if the event is wrong in the state."""
    return (state, event) in joint._wrong


def is_met(joint, state, body):
    """True if the test of a `when`, `mode` or `shows` body holds in the state."""
    if body[0] == "when":
        return state in body[1]
    if body[0] == "mode":
        return joint._pairs[state][1] in body[1]
    return body[1] in joint._sheets[state]


def _walked(office, store, sheets, start, checked):
    """Number the states in the order in which they are found."""
    rules = office.rules
    events = all_events(office.binder, rules)
    shop = Shop(office, store, sheets)
    pairs = [(store.starts[start], 0)]
    number_of = {pairs[0]: 0}
    targets = {}
    wrong = []
    at = 0
    while at < len(pairs):
        content, mode = pairs[at]
        for event in events:
            after = rules.next_state(mode, event)
            if after is None:
                continue
            target = _content_after(shop, store, content, event, checked)
            if target is None:
                wrong.append((at, event))
                continue
            if (target, after) not in number_of:
                number_of[(target, after)] = len(pairs)
                pairs.append((target, after))
            targets[(at, event)] = number_of[(target, after)]
        at = at + 1
    return Joint(pairs, events, targets, wrong, [sheets[content] for content, _ in pairs], len(rules))


def _content_after(shop, store, content, event, checked):
    """The content to which an event leads that the rules let, or None if it is wrong."""
    if event[0] in ("+", "-"):
        return store.target(content, event)
    if event == RELEASE and checked and not shop.is_right(content):
        return None
    return content
