"""Where a part can be set (point 19 of the document)."""

from drawingoffice.errors import CardUnsure
from drawingoffice.ladders import Ladder
from drawingoffice.states import check_turn


def saving(card, *, told=()):
    """The least and the greatest place of the next step that lead to a saved state; None if the state is lost."""
    check_turn(card.steps, told, ("part",))
    ladder = Ladder(card, lowest=len(told))
    return ladder.places(told) if ladder.is_saved(told) else None


def plan(card):
    """For each part step in order, what its place must be compared with, from below and from above."""
    ladder = Ladder(card)
    if not ladder.is_saved([]):
        raise CardUnsure()
    entries = []
    for at, step in enumerate(card.steps):
        if step[0] == "part":
            lows, highs = ladder.bounds(at)
            entries.append((step[1], lows, highs))
    return entries
