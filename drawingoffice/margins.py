"""How far the measures of a card can be widened (point 22 of the document)."""

from drawingoffice.cards import card_of
from drawingoffice.errors import BadWidening, CardUnsure
from drawingoffice.forms import form_of
from drawingoffice.ladders import Ladder


def widened(card, *, by):
    """The card in which every measure has the ends `low - by` and `high + by`."""
    if by < 0:
        raise BadWidening(by)
    return card_of([_widened_act(act, by) for act in card.acts])


def widest(card):
    """The greatest number by which the card can be widened and stays sure, or None if there is no greatest one."""
    lines = Ladder(card, growth=1).level(0)
    if any([line.constant > 0 for line in lines]):
        raise CardUnsure()
    # With all names gone, a line says that constant + slope * by is at most 0, and no slope is below 0.
    return min([int(-line.constant // line.slope) for line in lines if line.slope > 0], default=None)


def _widened_act(act, by):
    if act[0] == "measure":
        return "measure", act[1], act[2] - by, act[3] + by
    if act[0] == "rule":
        _, upper, lower, form, when = act
        terms = [(name, times, low - by, high + by) for name, times, low, high in form.terms]
        return "rule", upper, lower, form_of(form.constant, terms), when
    return act
