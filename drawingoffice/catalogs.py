"""Catalogs, which give lengths to characters (point 32 of the document)."""

from drawingoffice.texts import ascending_signs


class Catalog:
    """The lengths of characters; it never changes."""

    def __init__(self, lengths):
        self._letters = ascending_signs("".join([str(char) for char in lengths]))
        self._lengths = {char: lengths[char] for char in self._letters}

    @property
    def letters(self):
        """The characters in ascending order."""
        return self._letters

    def length(self, text):
        """The sum of the lengths of the characters of the text."""
        return sum([self._lengths.get(char, 0) for char in text])

    def __getitem__(self, at):
        return self._lengths.get(at, 0)

    def __iter__(self):
        return iter(self._letters)

    def __contains__(self, x):
        return x in self._lengths

    def __add__(self, other):
        if not isinstance(other, Catalog):
            return NotImplemented
        return Catalog({char: self[char] + other[char] for char in self._letters + other._letters})

    def __sub__(self, other):
        if not isinstance(other, Catalog):
            return NotImplemented
        return Catalog({char: self[char] - other[char] for char in self._letters + other._letters})

    def __mul__(self, other):
        if not isinstance(other, int):
            return NotImplemented
        return Catalog({char: self[char] * other for char in self._letters})

    def __rmul__(self, other):
        return self * other

    def __eq__(self, other):
        return isinstance(other, Catalog) and self._lengths == other._lengths
