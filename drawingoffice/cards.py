"""Cards: lists of measure steps, turn steps, part steps and rules (points 10 to 12 of the document)."""

from drawingoffice.errors import BadCount, BadEnds, BadOption, CardEmpty, CardFull, NameTaken, SamePart
from drawingoffice.errors import TurnTwice, UnknownName, UnlikeEnds
from drawingoffice.forms import Form, measured
from drawingoffice.names import FRAME, check_name

MOST_STEPS = {"measure": 6, "turn": 3, "part": 6}
MOST_RULES = 80


class Card:
    """A list of acts, at first without any."""

    def __init__(self):
        self._acts = []

    @property
    def acts(self):
        """All acts in order."""
        return list(self._acts)

    @property
    def steps(self):
        """The acts without the rules, in order."""
        return [act for act in self._acts if act[0] != "rule"]

    @property
    def rules(self):
        """The rules in order, as tuples (upper, lower, least, when)."""
        return [act[1:] for act in self._acts if act[0] == "rule"]

    def __contains__(self, x):
        return x in [step[1] for step in self.steps]

    def measure(self, name, *, low, high):
        """Add a measure step; return the form that is one time the measure."""
        _check_new_name(self, name)
        if low > high:
            raise BadEnds(low, high)
        _check_room(self, "measure")
        self._acts.append(("measure", name, low, high))
        return measured(name, low=low, high=high)

    def turn(self, name, *, options):
        """Add a turn step with the options 0 to `options - 1`."""
        _check_new_name(self, name)
        if options < 1:
            raise BadCount(options)
        _check_room(self, "turn")
        self._acts.append(("turn", name, options))

    def part(self, name):
        """Add a part step."""
        _check_new_name(self, name)
        _check_room(self, "part")
        self._acts.append(("part", name))

    def rule(self, upper, lower, *, least, when=()):
        """Add the rule that the place of `upper` less the place of `lower` is at least `least`."""
        parts = [FRAME] + [step[1] for step in self.steps if step[0] == "part"]
        for name in (upper, lower):
            if name not in parts:
                raise UnknownName(name)
        if upper == lower:
            raise SamePart(upper)
        form = least if isinstance(least, Form) else Form(least)
        _check_measures(self, form)
        pairs = _checked_when(self, when)
        if len(self.rules) >= MOST_RULES:
            raise CardFull("rule")
        self._acts.append(("rule", upper, lower, form, pairs))

    def back(self):
        """Remove the last act and return it."""
        if not self._acts:
            raise CardEmpty()
        return self._acts.pop()

    def form(self, name):
        """The form that is one time the measure step of this name."""
        for step in self.steps:
            if step[0] == "measure" and step[1] == name:
                return measured(name, low=step[2], high=step[3])
        raise UnknownName(name)


def card_of(acts):
    """A card with these acts, which are not checked: cards that are made from others may have more than 80 rules."""
    made = Card()
    made._acts = list(acts)
    return made


def sorted_when(options):
    """The tuple of the pairs (turn, option) of the dict, in ascending order of the turns."""
    turns = sorted([str(key) for key in options])
    return tuple([(turn, options[turn]) for turn in turns])


def _check_new_name(card, name):
    check_name(name)
    if name in card:
        raise NameTaken(name)


def _check_room(card, kind):
    if len([step for step in card.steps if step[0] == kind]) >= MOST_STEPS[kind]:
        raise CardFull(kind)


def _check_measures(card, form):
    """Raise an error unless each measure of the form is one of the card, with the same ends."""
    ends = {step[1]: step[2:] for step in card.steps if step[0] == "measure"}
    for name, times, low, high in form.terms:
        if name not in ends:
            raise UnknownName(name)
        if ends[name] != (low, high):
            raise UnlikeEnds(name)


def _checked_when(card, when):
    """The pairs in ascending order, if each one has an option of another turn of the card."""
    counts = {step[1]: step[2] for step in card.steps if step[0] == "turn"}
    options = {}
    for turn, option in when:
        if turn not in counts:
            raise UnknownName(turn)
        if turn in options:
            raise TurnTwice(turn)
        if not 0 <= option < counts[turn]:
            raise BadOption(turn, option)
        options[turn] = option
    return sorted_when(options)
