"""Who wins a card, and players who win it (points 13 to 16 of the document)."""

from drawingoffice.errors import StateLost, StateSaved
from drawingoffice.ladders import Ladder
from drawingoffice.states import check_told, check_turn


def sure(card, *, told=()):
    """True if the state is saved."""
    check_told(card.steps, told)
    return Ladder(card, lowest=len(told)).is_saved(told)


def winner(card, *, told=()):
    """The setter of the card if the state is saved, otherwise the breaker."""
    if sure(card, told=told):
        return Setter(card)
    return Breaker(card)


class Setter:
    """A player of the part steps, who keeps a saved state saved."""

    def __init__(self, card):
        self._steps = card.steps
        self._ladder = Ladder(card)

    @property
    def steps(self):
        """The steps of the card."""
        return list(self._steps)

    def __call__(self, told):
        check_turn(self._steps, told, ("part",))
        if not self._ladder.is_saved(told):
            raise StateLost(len(told))
        low, high = self._ladder.places(told)
        if low is not None:
            return low
        return 0 if high is None else high


class Breaker:
    """A player of the measure steps and the turn steps, who keeps a lost state lost."""

    def __init__(self, card):
        self._steps = card.steps
        self._ladder = Ladder(card)

    @property
    def steps(self):
        """The steps of the card."""
        return list(self._steps)

    def __call__(self, told):
        check_turn(self._steps, told, ("measure", "turn"))
        if self._ladder.is_saved(told):
            raise StateSaved(len(told))
        step = self._steps[len(told)]
        values = list(step[2:]) if step[0] == "measure" else list(range(step[2]))
        losing = [value for value in values if not self._ladder.is_saved([*told, value])]
        return losing[0]
