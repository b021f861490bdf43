"""Choosing as few items as possible so that each of several lists has one of them."""


def least_hitting(lists):
    """The shortest list of items that has an item of each list; among several the first one in ascending order.

    The items ascend, and so do those of each list, which is not empty.
    """
    items = sorted(set([item for row in lists for item in row]))
    size = 0
    found = _hitting(lists, items, size)
    while found is None:
        size = size + 1
        found = _hitting(lists, items, size)
    return found


def _hitting(lists, items, size):
    """The first list of at most so many of the items, which ascend, that has an item of each list, or None."""
    if not lists:
        return []
    if size == 0:
        return None
    # The items ascend, so the first one must not lie behind the last item of any list.
    last = sorted(set([row[-1] for row in lists]))[0]
    first_ones = items[:items.index(last) + 1] if last in items else []
    for at, item in enumerate(first_ones):
        others = _hitting([row for row in lists if item not in row], items[at + 1:], size - 1)
        if others is not None:
            return [item] + others
    return None
