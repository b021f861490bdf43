"""States of a card: the values of its first steps (point 13 of the document)."""

from drawingoffice.errors import BadTold, NotItsTurn


def can_have(step, value):
    """True if the step can have the value."""
    if step[0] == "measure":
        return step[2] <= value <= step[3]
    if step[0] == "turn":
        return 0 <= value < step[2]
    return True


def check_told(steps, told):
    """Raise BadTold unless `told` is a state of the steps."""
    for at, value in enumerate(told):
        if at >= len(steps) or not can_have(steps[at], value):
            raise BadTold(at)


def check_turn(steps, told, kinds):
    """Raise an error unless `told` is a state and the step behind it is of one of the kinds."""
    check_told(steps, told)
    at = len(told)
    if at >= len(steps) or steps[at][0] not in kinds:
        raise NotItsTurn(at)
