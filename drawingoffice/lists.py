"""Lists of replacements, which change stacks (points 25 and 26 of the document)."""

from drawingoffice.errors import TooManySteps, TooMuchGrowth
from drawingoffice.texts import ascending_signs

MOST_STEPS = 24
MOST_GROWTH = 1000


class Steps:
    """A list of replacement steps; it never changes."""

    def __init__(self, steps):
        self._rows = list(steps)
        if len(self._rows) > MOST_STEPS:
            raise TooManySteps(len(self._rows))
        factor = 1
        for step in self._rows:
            factor = factor * _growth(step)
        if factor > MOST_GROWTH:
            raise TooMuchGrowth(factor)

    @classmethod
    def of(cls, *steps):
        """The list of the steps that are passed one by one."""
        return cls(steps)

    @property
    def alphabet(self):
        """All characters that a step reads, in ascending order."""
        return ascending_signs("".join([_read_signs(step) for step in self._rows]))

    def __call__(self, text):
        for step in self._rows:
            text = _replaced(step, text)
        return text

    def __add__(self, other):
        if not isinstance(other, Steps):
            return NotImplemented
        return Steps(self._rows + other._rows)

    def __mul__(self, other):
        if not isinstance(other, int):
            return NotImplemented
        return Steps(self._rows * other)

    def __rmul__(self, other):
        return self * other

    def __len__(self):
        return len(self._rows)

    def __iter__(self):
        return iter(self._rows)

    def __eq__(self, other):
        return isinstance(other, Steps) and self._rows == other._rows


def _growth(step):
    """The least number, from 1 on, that bounds how many times longer the step makes a stack."""
    if step[0] == "replace":
        return max(1, (len(step[2]) + len(step[1]) - 1) // len(step[1]))
    if step[0] == "squeeze":
        return 1
    return max(1, max([len(text) for char, text in step[1]], default=1))


def _read_signs(step):
    """The characters that the step reads."""
    if step[0] == "map":
        return "".join([char for char, text in step[1]])
    return step[1]


def _replaced(step, text):
    """The text that one step leaves."""
    if step[0] == "replace":
        return text.replace(step[1], step[2])
    if step[0] == "squeeze":
        return _squeezed(text, step[1])
    table = {char: new for char, new in step[1]}
    return "".join([table.get(char, char) for char in text])


def _squeezed(text, char):
    """The text in which each unbroken sequence of the character is one such character."""
    befores = " " + text
    return "".join([sign for before, sign in zip(befores, text) if sign != char or before != char])
