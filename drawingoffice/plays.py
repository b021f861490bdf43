"""Whole plays of a card (points 17 and 18 of the document)."""

from drawingoffice.errors import BadTold, CardUnsure, WrongCount
from drawingoffice.names import FRAME
from drawingoffice.players import Setter, sure
from drawingoffice.states import can_have, check_told


def follow(player, moves):
    """The values of all steps, where the player plays its steps and `moves` has the values of the others."""
    steps = player.steps
    kinds = ("part",) if isinstance(player, Setter) else ("measure", "turn")
    due = len([step for step in steps if step[0] not in kinds])
    if len(moves) != due:
        raise WrongCount(due)
    values = []
    used = 0
    for at, step in enumerate(steps):
        if step[0] in kinds:
            value = player(list(values))
        else:
            value = moves[used]
            used += 1
            if not can_have(step, value):
                raise BadTold(at)
        values.append(value)
    return values


def broken(card, values):
    """The indexes of the rules that count and do not hold where the steps have these values."""
    steps = card.steps
    if len(values) != len(steps):
        raise WrongCount(len(steps))
    check_told(steps, values)
    found = {step[1]: value for step, value in zip(steps, values)}
    found[FRAME] = 0
    indexes = []
    for index, (upper, lower, least, when) in enumerate(card.rules):
        counts = all([found[turn] == option for turn, option in when])
        if counts and found[upper] - found[lower] < least.value(found):
            indexes.append(index)
    return indexes


def move_rows(card):
    """All lists of one value for each measure step and each turn step, in ascending order, one at a time."""
    ends = []
    for step in card.steps:
        if step[0] == "measure":
            ends.append((step[2], step[3]))
        if step[0] == "turn":
            ends.append((0, step[2] - 1))
    row = [low for low, high in ends]
    at = 0
    while at >= 0:
        yield list(row)
        at = len(row) - 1
        while at >= 0 and row[at] == ends[at][1]:
            row[at] = ends[at][0]
            at = at - 1
        if at >= 0:
            row[at] = row[at] + 1


def plays(card):
    """The plays of the setter of a card for all rows of moves in order."""
    if not sure(card):
        raise CardUnsure()
    player = Setter(card)
    for row in move_rows(card):
        yield follow(player, row)
