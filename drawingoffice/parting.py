"""Telling rules apart, and the smallest rules that let the same (point 54 of the document)."""

from drawingoffice.histories import least_parting
from drawingoffice.rules import Rules

NOWHERE = -1


def parting(a, b):
    """The least history that the rules a let and the rules b do not let, or None."""
    return least_parting(a, b)


def smallest(rules):
    """The rules with the fewest states that let the same histories."""
    events = sorted(set(rules.events))
    targets = [[rules.next_state(state, event) for event in events] for state in range(len(rules))]
    class_of = _classes(targets)
    order = _least_states(targets, class_of)
    number_of = {class_of[state]: number for number, state in enumerate(order)}
    rows = []
    for state in order:
        rows.append([NOWHERE if target is None else number_of[class_of[target]] for target in targets[state]])
    # An event that is let everywhere and changes no state plays no part.
    used = [at for at in range(len(events)) if any([row[at] != number for number, row in enumerate(rows)])]
    moves = [[max(0, row[at]) for at in used] for row in rows]
    barred = [(number, events[at]) for number, row in enumerate(rows) for at in used if row[at] == NOWHERE]
    return Rules([events[at] for at in used], moves, barred)


def _classes(targets):
    """For each state the number of its class; two states have one class if the same histories are let from both."""
    class_of = [0 for _ in targets]
    count = 0
    finer = _split(targets, class_of)
    # Classes are only ever split, so they are final when their number stays.
    while len(set(finer)) > count:
        count = len(set(finer))
        class_of = finer
        finer = _split(targets, class_of)
    return class_of


def _split(targets, class_of):
    """The classes, each one split by the classes of the next states."""
    number_of = {}
    finer = []
    for own, row in zip(class_of, targets):
        kind = (own,) + tuple([NOWHERE if target is None else class_of[target] for target in row])
        if kind not in number_of:
            number_of[kind] = len(number_of)
        finer.append(number_of[kind])
    return finer


def _least_states(targets, class_of):
    """One state of each class that can be reached, in the order of the least histories that lead to the classes."""
    order = [0]
    found = {class_of[0]: True}
    at = 0
    while at < len(order):
        for target in targets[order[at]]:
            if target is not None and class_of[target] not in found:
                found[class_of[target]] = True
                order.append(target)
        at = at + 1
    return order
