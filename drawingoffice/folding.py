"""Folding the places of seen runs into the contents of a store (point 47 of the document)."""

from drawingoffice.facts import seen_runs
from drawingoffice.runs import opposite_step, prefixes
from drawingoffice.stores import Store


class Fold:
    """The folded store of some facts.

    `all_places` are the places. `ways` has a triple (place, step, place) for each step by which one place leads to
    another one, and `merges` a triple (place, place, reason) for each two places that were merged, in order; the
    reason is that of a row of point 49. Places are given by their indexes here. `content_of` has the content of
    each place, `net` is the folded store, and `runs_to` has the first run of each content.
    """

    def __init__(self, all_places, ways, merges, content_of, net, runs_to):
        self.all_places = all_places
        self.ways = ways
        self.merges = merges
        self.content_of = content_of
        self.net = net
        self.runs_to = runs_to


def folded(starts, facts):
    """Fold the seen runs of the facts and of the starts."""
    places = _places(starts, facts)
    index_of = {place: at for at, place in enumerate(places)}
    ways = _ways(places, index_of)
    pairs = []
    for at, fact in enumerate(facts):
        if fact[0] == "alike":
            pairs.append((index_of[fact[1]], index_of[fact[2]], ("seen", at)))
    parents, merges = _merged(len(places), ways, pairs)
    tops = [_top(parents, place) for place in range(len(places))]
    names = sorted([str(name) for name in starts])
    number_of, runs_to = _numbered(names, [tops[index_of[(name,)]] for name in names], _steps_between(ways, tops))
    content_of = [number_of[top] for top in tops]
    stands = {name: content_of[index_of[(name,)]] for name in names}
    moves = [(content_of[before], step[1:], content_of[after]) for before, step, after in ways if step[0] == "+"]
    net = Store(len(runs_to), stands, sorted(set(moves)))
    return Fold(places, ways, merges, content_of, net, runs_to)


def _places(starts, facts):
    """All prefixes of the seen runs and the runs without steps of the starts, each once."""
    found = {(name,): True for name in starts}
    for fact in facts:
        for run in seen_runs(fact):
            for place in prefixes(run):
                found[place] = True
    return list(found)


def _ways(places, index_of):
    """The triples (place, step, place) of the steps by which one place leads to another one."""
    ways = []
    for after, place in enumerate(places):
        if len(place) > 1:
            before = index_of[place[:-1]]
            ways.append((before, place[-1], after))
            ways.append((after, opposite_step(place[-1]), before))
    return ways


def _merged(count, ways, pairs):
    """Merge the places of the pairs and all others that must be merged then.

    Return the parents, from which `_top` finds the same place for all places of a class, and the merges.
    """
    parents = list(range(count))
    sizes = [1 for _ in range(count)]
    # For each class, by its top, the first way of each step: the place from which it leads and the one it leads to.
    firsts = [{} for _ in range(count)]
    due = list(pairs)
    for before, step, after in ways:
        if step in firsts[before]:
            due.append((firsts[before][step][1], after, ("step", step, before, before)))
        else:
            firsts[before][step] = (before, after)
    merges = []
    at = 0
    while at < len(due):
        one, two = _top(parents, due[at][0]), _top(parents, due[at][1])
        if one != two:
            merges.append(due[at])
            if sizes[one] < sizes[two]:
                one, two = two, one
            parents[two] = one
            sizes[one] = sizes[one] + sizes[two]
            for step in list(firsts[two]):
                before, after = firsts[two][step]
                if step in firsts[one]:
                    other_before, other_after = firsts[one][step]
                    due.append((other_after, after, ("step", step, other_before, before)))
                else:
                    firsts[one][step] = (before, after)
        at = at + 1
    return parents, merges


def _top(parents, place):
    while parents[place] != place:
        place = parents[place]
    return place


def _steps_between(ways, tops):
    """For each class, by its top, the steps that lead on from it, with the class to which each one leads."""
    targets = {}
    for top in tops:
        targets[top] = {}
    for before, step, after in ways:
        targets[tops[before]][step] = tops[after]
    return targets


def _numbered(names, starting, targets):
    """The number of each class, by its top, and the first runs of the classes in the order of their numbers.

    `starting` has the classes of the names, which ascend.
    """
    number_of = {}
    order = []
    runs_to = []
    for name, top in zip(names, starting):
        if top not in number_of:
            number_of[top] = len(order)
            order.append(top)
            runs_to.append((name,))
    at = 0
    while at < len(order):
        steps = targets[order[at]]
        for step in sorted([str(step) for step in steps]):
            if steps[step] not in number_of:
                number_of[steps[step]] = len(order)
                order.append(steps[step])
                runs_to.append(runs_to[at] + (step,))
        at = at + 1
    return number_of, runs_to
