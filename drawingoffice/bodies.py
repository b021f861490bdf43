"""The bodies of programs, in the order in which they are written (points 57, 60 and 64 of the document)."""

from drawingoffice.errors import BadLimit, UnknownEvent, UnknownState
from drawingoffice.limits import is_limit


def inner_bodies(body):
    """The bodies that stand directly in the body, those of closures included."""
    if body[0] == "stop":
        return []
    if body[0] == "choose":
        return list(body[1])
    if body[0] == "call":
        return [argument[2] for argument in body[2] if argument[0] == "make"]
    return [body[2]]


def written_bodies(program):
    """All bodies of the program."""
    found = []
    for definition in program:
        due = [definition[2]]
        while due:
            body = due.pop()
            found.append(body)
            due.extend(inner_bodies(body)[::-1])
    return found


def check_bodies(program, events, mode_count, state_count=None):
    """Raise an error unless all events, states and limits in the program are known.

    The states of `when` bodies are checked only if a number of states is passed.
    """
    for body in written_bodies(program):
        if body[0] == "do" and body[1] not in events:
            raise UnknownEvent(body[1])
        if body[0] == "mode":
            _check_states(body[1], mode_count)
        if body[0] == "when" and state_count is not None:
            _check_states(body[1], state_count)
        if body[0] == "shows" and not is_limit(body[1]):
            raise BadLimit(body[1])


def _check_states(states, count):
    for state in states:
        if not 0 <= state < count:
            raise UnknownState(state)
