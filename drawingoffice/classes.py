"""Classes of items that are merged one after the other."""


class Classes:
    """Items, each one at first in a class of its own."""

    def __init__(self, items):
        self._parents = {item: item for item in items}
        self._sizes = {item: 1 for item in self._parents}

    def __contains__(self, x):
        return x in self._parents

    def merge(self, one, two):
        """Merge the classes of two items."""
        small, great = self._top(one), self._top(two)
        if small != great:
            if self._sizes[small] > self._sizes[great]:
                small, great = great, small
            self._parents[small] = great
            self._sizes[great] = self._sizes[great] + self._sizes[small]

    def are_one(self, one, two):
        """True if the two are equal, or items of one class."""
        if one == two:
            return True
        return one in self._parents and two in self._parents and self._top(one) == self._top(two)

    def _top(self, item):
        while self._parents[item] != item:
            item = self._parents[item]
        return item
