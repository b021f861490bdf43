"""Small sheets, changes, stores and facts for the tests, and what the document says of them, played out directly."""

import itertools
import random

from drawingoffice.changes import Change
from drawingoffice.sheets import Sheet
from drawingoffice.stores import Store

LOW = ("reach", "p", "frame", (3, ()))
MID = ("reach", "p", "frame", (5, ()))
ROOM = ("room", "p", "frame", "aa", (0, ()))
LIMITS = [LOW, MID, ROOM]

# What a change can say of one limit.
LISTS = [None, "lost", "gained", "kept", "barred"]


def sublists(items):
    """All lists of some of the items, in their order."""
    return [list(some) for size in range(len(items) + 1) for some in itertools.combinations(items, size)]


def all_sheets(limits):
    return [Sheet(some) for some in sublists(limits)]


def all_changes(limits):
    """All changes that touch no other limits, the void one too."""
    rows = itertools.product(LISTS, repeat=len(limits))
    return [change_with(dict(zip(limits, row))) for row in rows] + [Change.nowhere()]


def change_with(words):
    """The change that has each limit in the list of its word."""
    lists = {word: [limit for limit in words if words[limit] == word] for word in LISTS[1:]}
    return Change(lists["lost"], lists["gained"], kept=lists["kept"], barred=lists["barred"])


def after_by_hand(change, limits):
    """The set of limits that the change leaves of a set of limits, or None if it does not go, limit by limit."""
    if change.is_void:
        return None
    left = set(limits)
    for limit in change.touched:
        if (limit in left) != (limit in change.lost + change.kept):
            return None
        left.discard(limit)
        if limit in change.gained + change.kept:
            left.add(limit)
    return left


def described(change):
    """All that can be read off a change."""
    return change.lost, change.gained, change.kept, change.barred, change.touched, change.is_void


def all_stores(contents, starts, names):
    """All stores with so many contents that have these starts and moves of these names only."""
    places = range(contents)
    found = []
    for stands in itertools.product(places, repeat=len(starts)):
        for nets in itertools.product(injections(contents), repeat=len(names)):
            moves = [(source, name, target) for name, net in zip(names, nets) for source, target in net]
            found.append(Store(contents, dict(zip(starts, stands)), moves))
    return found


def injections(contents):
    """All lists of pairs of contents in which none is twice the first or twice the second one."""
    pairs = list(itertools.product(range(contents), repeat=2))
    return [some for some in sublists(pairs)
            if len({one for one, _ in some}) == len(some) == len({two for _, two in some})]


def all_steps(names):
    return [sign + name for name in names for sign in "+-"]


def all_runs(starts, names, longest):
    """All runs of the starts with at most so many steps, the shorter ones first."""
    return [(start, *steps) for size in range(longest + 1) for start in starts
            for steps in itertools.product(all_steps(names), repeat=size)]


def end_by_hand(store, run):
    """The content at which the run ends, step by step through the list of moves; None if it fails."""
    content = store.starts[run[0]]
    for step in run[1:]:
        sources, targets = (0, 2) if step[0] == "+" else (2, 0)
        on = [move[targets] for move in store.moves if move[1] == step[1:] and move[sources] == content]
        if not on:
            return None
        assert len(on) == 1
        content = on[0]
    return content


def holds_by_hand(fact, store):
    """Point 44, word by word."""
    ends = [end_by_hand(store, run) for run in fact[1:]]
    if fact[0] == "fails":
        return ends[0] is None
    if None in ends:
        return False
    return {"goes": True, "alike": ends[0] == ends[-1], "apart": ends[0] != ends[-1]}[fact[0]]


def limits_behind(sheet, changes, steps):
    """The set of limits that the revision steps leave of a sheet, one after the other; None if one does not go."""
    limits = set(sheet)
    for step in steps:
        if step[1:] not in changes:
            return None
        change = changes[step[1:]] if step[0] == "+" else -changes[step[1:]]
        limits = after_by_hand(change, limits)
        if limits is None:
            return None
    return limits


def sheets_by_hand(store, drawings, changes):
    """The sets of limits of the contents by all runs of any length; None if the store does not bear them."""
    reached = [(store.starts[name], frozenset(drawings[name])) for name in drawings]
    for content, limits in reached:
        for source, name, target in store.moves:
            for here, step, there in [(source, "+" + name, target), (target, "-" + name, source)]:
                if here == content:
                    left = limits_behind(limits, changes, [step])
                    if left is None:
                        return None
                    if (there, frozenset(left)) not in reached:
                        reached.append((there, frozenset(left)))
    found = [{limits for content, limits in reached if content == number} for number in range(store.contents)]
    if any(len(some) > 1 for some in found):
        return None
    return [set(*some) if some else None for some in found]


def sheets_by_runs(store, drawings, changes):
    """The same by trying all runs up to the length that is enough for every content and every move."""
    names = sorted({name for _, name, _ in store.moves})
    found = [None] * store.contents
    for run in all_runs(sorted(drawings), names, store.contents):
        content = end_by_hand(store, run)
        if content is not None:
            limits = limits_behind(drawings[run[0]], changes, run[1:])
            if limits is None or found[content] not in (None, limits):
                return None
            found[content] = limits
    return found


def fits_by_hand(drawings, changes, facts, store):
    """True if the store has the starts, bears the drawings and every fact holds in it."""
    if not set(drawings) <= set(store.starts):
        return False
    borne = sheets_by_hand(store, drawings, changes) is not None
    return borne and all(holds_by_hand(fact, store) for fact in facts)


def random_run(chance, starts, names, longest):
    steps = [chance.choice(all_steps(names)) for _ in range(chance.randint(0, longest))]
    return (chance.choice(starts), *steps)


def random_fact(chance, starts, names, longest):
    word = chance.choice(["goes", "fails", "alike", "apart"])
    runs = [random_run(chance, starts, names, longest) for _ in range(1 if word in ("goes", "fails") else 2)]
    return (word, *runs)


def random_facts(seed, starts, names, *, most=4, longest=2):
    chance = random.Random(seed)
    return [random_fact(chance, starts, names, longest) for _ in range(chance.randint(0, most))]


def fold_by_hand(starts, facts):
    """The folded store of point 47 and its first runs, by its words and in no hurry."""
    seen = [run for fact in facts if fact[0] != "fails" for run in fact[1:]] + [(start,) for start in starts]
    places = sorted({run[:size] for run in seen for size in range(1, len(run) + 1)})
    ways = [(one, step, two) for one in places for two in places
            for step in {*one[1:], *two[1:], *map(turned, one[1:] + two[1:])}
            if two == one + (step,) or one == two + (turned(step),)]
    class_of = {place: place for place in places}
    due = [fact[1:] for fact in facts if fact[0] == "alike"]
    while True:
        for first, second in due:
            # Both classes get the name of the second one.
            class_of = {place: class_of[second] if top == class_of[first] else top for place, top in class_of.items()}
        due = [(after, others) for before, step, after in ways for other, same, others in ways
               if step == same and class_of[before] == class_of[other] and class_of[after] != class_of[others]]
        if not due:
            break
    targets = {(class_of[one], step): class_of[two] for one, step, two in ways}
    order, runs = [], []
    for start in sorted(starts):
        if class_of[start,] not in order:
            order.append(class_of[start,])
            runs.append((start,))
    for at, place in enumerate(order):
        for step in sorted(step for source, step in targets if source == place):
            if targets[place, step] not in order:
                order.append(targets[place, step])
                runs.append(runs[at] + (step,))
    moves = [(order.index(place), step[1:], order.index(targets[place, step]))
             for place, step in targets if step[0] == "+"]
    return Store(len(order), {start: order.index(class_of[start,]) for start in starts}, moves), runs


def turned(step):
    return {"+": "-", "-": "+"}[step[0]] + step[1:]
