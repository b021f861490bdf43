"""Derivations that a card is not sure (points 20 and 21 of the document)."""

from drawingoffice.cards import card_of, sorted_when
from drawingoffice.errors import CardSure
from drawingoffice.forms import form_of
from drawingoffice.ladders import Ladder
from drawingoffice.names import FRAME


def derivation(card):
    """A derivation that holds for the card."""
    lines = _refutation(card)
    if not lines:
        raise CardSure()
    return lines


def core(card):
    """The indexes of rules that are left when each rule, from the last one on, is left out if the others suffice."""
    steps = card.steps
    rules = card.rules
    kept = list(range(len(rules)))
    used = _used_rules(derivation(card), kept)
    for index in reversed(range(len(rules))):
        others = [other for other in kept if other != index]
        if index in used:
            lines = _refutation(card_of(steps + [("rule",) + rules[other] for other in others]))
            if not lines:
                continue
            used = _used_rules(lines, others)
        kept = others
    return kept


def derivation_holds(card, lines):
    """True if the lines are a derivation for the card."""
    position = {step[1]: at for at, step in enumerate(card.steps)}
    position[FRAME] = -1
    written = card.rules
    shown = []
    for line in lines:
        if not _refers_rightly(line, len(written), len(shown)):
            return False
        rule = _rule_of(line, written, shown, position)
        if rule is None:
            return False
        shown.append(rule)
    return bool(shown) and _is_absurd(shown[-1])


def _refutation(card):
    """A derivation that holds for the card, or an empty list if the card is sure."""
    for line in Ladder(card).level(0):
        if line.constant > 0:
            lines = []
            _write(line, lines, {})
            return lines
    return []


def _write(line, lines, numbers):
    """Add the lines of a derivation up to this line of a ladder; return the number of the last one.

    `numbers` has the numbers of the lines that are written already.
    """
    if line not in numbers:
        kind, *told = line.origin
        if kind == "join":
            told[0] = _write(told[0], lines, numbers)
            told[1] = _write(told[1], lines, numbers)
        elif kind != "rule":
            told[0] = _write(told[0], lines, numbers)
        numbers[line] = len(lines)
        lines.append((kind, *told))
    return numbers[line]


def _used_rules(lines, indexes):
    """The rules that a derivation uses, where its rule with number k is the one with the index `indexes[k]`."""
    return [indexes[line[1]] for line in lines if line[0] == "rule"]


def _refers_rightly(line, rule_count, line_count):
    """True if a line refers to a rule of the card or to earlier lines."""
    if line[0] == "rule":
        return 0 <= line[1] < rule_count
    numbers = line[1:3] if line[0] == "join" else line[1:2]
    return all([0 <= number < line_count for number in numbers])


def _rule_of(line, written, shown, position):
    """The rule that a line stands for, or None if the line is not right."""
    kind = line[0]
    if kind == "rule":
        return written[line[1]]
    if kind == "worst":
        return _worst(shown[line[1]], line[2], line[3], position)
    if kind == "free":
        return _freed(shown[line[1]], line[2], position)
    return _joined(shown[line[1]], shown[line[2]], line[3], position)


def _worst(rule, name, value, position):
    upper, lower, form, when = rule
    for term in form.terms:
        if term[0] == name:
            if not term[2] <= value <= term[3] or not _comes_last(name, _names(rule), position):
                return None
            terms = [other for other in form.terms if other[0] != name]
            return upper, lower, form_of(form.constant + term[1] * value, terms), when
    return None


def _freed(rule, turn, position):
    upper, lower, form, when = rule
    if turn not in [pair[0] for pair in when] or not _comes_last(turn, _names(rule), position):
        return None
    return upper, lower, form, tuple([pair for pair in when if pair[0] != turn])


def _joined(first, second, part, position):
    if first[0] == first[1] or second[0] == second[1]:
        return None
    if part == FRAME or first[0] != part or second[1] != part:
        return None
    if not _comes_last(part, _names(first) + _names(second), position):
        return None
    options = {turn: option for turn, option in first[3]}
    for turn, option in second[3]:
        if options.get(turn, option) != option:
            return None
        options[turn] = option
    return second[0], first[1], first[2] + second[2], sorted_when(options)


def _names(rule):
    """The names of a line: its parts unless it is closed, its measures and its turns."""
    upper, lower, form, when = rule
    parts = [] if upper == lower else [upper, lower]
    return parts + [term[0] for term in form.terms] + [pair[0] for pair in when]


def _comes_last(name, names, position):
    """True if the step of the name comes after the steps of all others of these names."""
    return all([position[other] < position[name] for other in names if other != name])


def _is_absurd(rule):
    """True if the rule is closed and says that a number greater than 0 is at most 0."""
    upper, lower, form, when = rule
    return upper == lower and form.terms == () and when == () and form.constant > 0
