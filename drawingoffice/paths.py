"""Shortest paths through the states of a joint."""


def path_between(joint, source, target):
    """The fewest events that lead on from one state to another one, which they reach."""
    return _path(joint, source, [target])


def path_to_wrong(joint, source):
    """The fewest events from a state that is not harmless of which the last one is wrong."""
    wrong_at = {}
    for state, event in joint.wrong:
        if state not in wrong_at:
            wrong_at[state] = event
    events = _path(joint, source, list(wrong_at))
    state = source
    for event in events:
        state = joint.next_state(state, event)
    return events + [wrong_at[state]]


def _path(joint, source, targets):
    """The fewest events that lead on from the state to one of the targets."""
    events_to = {source: []}
    due = [source]
    at = 0
    while due[at] not in targets:
        here = due[at]
        at = at + 1
        for event in joint.events:
            after = joint.next_state(here, event)
            if after is not None and after not in events_to:
                events_to[after] = events_to[here] + [event]
                due.append(after)
    return events_to[due[at]]
