"""Whether a store bears drawings (point 45 of the document)."""

from drawingoffice.changes import sheet_after
from drawingoffice.errors import CannotBear, UnknownStart


def sheets_of(store, drawings, changes):
    """The sheets of the contents, with None for a content to which no run of a drawing leads."""
    starts = store.starts
    for name in sorted([str(name) for name in drawings]):
        if name not in starts:
            raise UnknownStart(name)
    sheets, claim = spread(store, drawings, changes)
    if claim is not None:
        raise CannotBear()
    return sheets


def spread(store, drawings, changes):
    """The sheets of the contents, and None if the store, which has all starts, bears the drawings.

    If it does not, the second item is a fact that holds in the store and contradicts the drawings: one run goes
    that does not go on its sheets, or two runs that leave different sheets end alike.
    """
    starts = store.starts
    sheets = [None for _ in range(store.contents)]
    runs = [() for _ in range(store.contents)]
    reached = []
    for name in sorted([str(name) for name in drawings]):
        content = starts[name]
        if sheets[content] is None:
            sheets[content] = drawings[name]
            runs[content] = (name,)
            reached.append(content)
        elif sheets[content] != drawings[name]:
            return sheets, ("alike", runs[content], (name,))
    ways = _ways(store)
    at = 0
    while at < len(reached):
        content = reached[at]
        at = at + 1
        for step, target in ways[content]:
            run = runs[content] + (step,)
            after = _sheet_behind(sheets[content], step, changes)
            if after is None:
                return sheets, ("goes", run)
            if sheets[target] is None:
                sheets[target] = after
                runs[target] = run
                reached.append(target)
            elif sheets[target] != after:
                return sheets, ("alike", run, runs[target])
    return sheets, None


def _ways(store):
    """For each content the pairs of a step that leads on from there and the content to which it leads."""
    ways = [[] for _ in range(store.contents)]
    for source, name, target in store.moves:
        ways[source].append(("+" + name, target))
        ways[target].append(("-" + name, source))
    return ways


def _sheet_behind(sheet, step, changes):
    """The sheet that the step leaves, or None if it does not go on the sheet or has no change."""
    if step[1:] not in changes:
        return None
    change = changes[step[1:]] if step[0] == "+" else -changes[step[1:]]
    return sheet_after(change, sheet) if sheet in change else None
