"""Histories that one list of rules lets and another one does not (point 54 of the document)."""


def least_parting(a, b):
    """The least history that the rules a let and the rules b do not let, as a list; None if there is none."""
    events = sorted(set(a.events + b.events))
    pairs = [(0, 0)]
    histories = [[]]
    seen = {(0, 0): True}
    at = 0
    while at < len(pairs):
        for event in events:
            one = a.next_state(pairs[at][0], event)
            two = b.next_state(pairs[at][1], event)
            if one is not None and two is None:
                return histories[at] + [event]
            if one is not None and (one, two) not in seen:
                seen[(one, two)] = True
                pairs.append((one, two))
                histories.append(histories[at] + [event])
        at = at + 1
    return None
