"""Orders of items."""


def arrangements(items):
    """All lists with each of the items once, in ascending order of the indexes that the items have."""
    if not items:
        return [[]]
    found = []
    for at, item in enumerate(items):
        for others in arrangements(items[:at] + items[at + 1:]):
            found.append([item] + others)
    return found
