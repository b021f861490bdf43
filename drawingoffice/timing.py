"""Cards in which a measure or a turn comes at another time (points 23 and 24 of the document)."""

from drawingoffice.cards import card_of
from drawingoffice.errors import BadOption, BadPosition, UnknownName
from drawingoffice.players import sure


def moved(card, name, *, to):
    """The card in which the measure step or turn step has the index `to` among the steps."""
    steps = card.steps
    step = _step_of(card, name, ("measure", "turn"))
    if not 0 <= to < len(steps):
        raise BadPosition(to)
    others = [other for other in steps if other != step]
    return card_of(others[:to] + [step] + others[to:] + [("rule",) + rule for rule in card.rules])


def latest(card, name):
    """The greatest index at which the measure step or turn step leaves the card sure, or None if there is none."""
    _step_of(card, name, ("measure", "turn"))
    for to in reversed(range(len(card.steps))):
        if sure(moved(card, name, to=to)):
            return to
    return None


def taken(card, turn, *, option):
    """The card in which the turn took the option before all steps."""
    step = _step_of(card, turn, ("turn",))
    if not 0 <= option < step[2]:
        raise BadOption(turn, option)
    acts = [act for act in card.acts if act[0] != "rule" or (turn, option) in act[4] or not _asks(act, turn)]
    return card_of(_without_turn(acts, turn))


def put_off(card, turn):
    """The card without the turn step, in which the rules of all its options are asked."""
    _step_of(card, turn, ("turn",))
    return card_of(_without_turn(card.acts, turn))


def _step_of(card, name, kinds):
    """The step of one of these kinds that has the name."""
    for step in card.steps:
        if step[0] in kinds and step[1] == name:
            return step
    raise UnknownName(name)


def _asks(rule, turn):
    """True if the rule, an act, has a pair of the turn."""
    return turn in [pair[0] for pair in rule[4]]


def _without_turn(acts, turn):
    """The acts without the turn step, and their rules without the pair of the turn."""
    left = []
    for act in acts:
        if act[0] == "rule":
            when = tuple([pair for pair in act[4] if pair[0] != turn])
            left.append(act[:4] + (when,))
        elif act[:2] != ("turn", turn):
            left.append(act)
    return left
