"""Terms: what must be granted so that something goes wrong (points 65 and 66 of the document).

An atom is a pair (slot, way), where the slot is the number of a name; a term is an ascending tuple of different atoms.
A granted way (p,) grants every way (p, i, q) of the same name, so a term that has the first one has no other ones.
A term covers another one if everything that grants the other one grants it, too.
"""


class Terms:
    """The least ones of the terms that were put here: those that no other one covers.

    Something is told of each term that was put here, also of those that are not among the least ones any more.
    """

    def __init__(self):
        self._told = {}
        self._least = {}
        # From each atom to the tree of the atoms behind it; None marks the end of a term. What is covered by a later
        # term stays here, for whatever it covers is covered by that one, too.
        self._tree = {}

    def __iter__(self):
        return iter(self._least)

    def told(self, term):
        """What is told of the term."""
        return self._told[term]

    def covers(self, term):
        """True if one of the terms covers the term."""
        return _has_cover(self._tree, term, 0)

    def put(self, term, what):
        """Put a term here that none of the others covers."""
        needless = [other for other in self._least if is_covered(other, term)]
        for other in needless:
            del self._least[other]
        self._least[term] = True
        self._told[term] = what
        tree = self._tree
        for atom in term:
            tree = tree.setdefault(atom, {})
        tree[None] = True


def is_covered(term, other):
    """True if the other term covers the term."""
    for slot, way in other:
        if (slot, way) not in term and (slot, way[:1]) not in term:
            return False
    return True


def merged(one, two, groups):
    """The term that asks for both, or None if it asks for two ways of the names of one closure.

    `groups` has a number for the slots of each closure, and None for all other slots.
    """
    if not one or not two:
        return one + two
    atoms = sorted(set(one + two))
    kept = [(slot, way) for slot, way in atoms if len(way) == 1 or (slot, way[:1]) not in atoms]
    own = [groups[slot] for slot, _ in kept if groups[slot] is not None]
    # A closure calls one of its own names and never comes back, so only one way of them is ever granted.
    return tuple(kept) if len(set(own)) == len(own) else None


def _has_cover(tree, term, at):
    """True if a term of the tree covers the term without its first `at` atoms."""
    if None in tree:
        return True
    for index in range(at, len(term)):
        slot, way = term[index]
        if (slot, way) in tree and _has_cover(tree[(slot, way)], term, index + 1):
            return True
        if len(way) == 1 and any([_has_cover(tree[atom], term, index) for atom in _granted_with(tree, slot, way)]):
            return True
    return False


def _granted_with(tree, slot, way):
    """The ways (p, i, q) at the top of the tree that the way (p,) of the name grants, too."""
    atoms = [atom for atom in tree if atom is not None and atom[0] == slot]
    return [atom for atom in atoms if len(atom[1]) == 3 and atom[1][:1] == way]
