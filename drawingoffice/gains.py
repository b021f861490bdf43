"""How much longer one list of replacements can leave a stack than another one (points 33 and 34 of the document)."""

from drawingoffice.errors import BadBound
from drawingoffice.holding import advance, finish, start
from drawingoffice.raising import raised_worths
from drawingoffice.texts import ascending_signs
from drawingoffice.walks import walk

NOWHERE = -1


class Excess:
    """The greatest gain and what shows it, or, if there is no greatest one, a loop that gains again and again."""

    def __init__(self, greatest, text, loop, table):
        self.greatest = greatest
        self.text = text
        self.loop = loop
        self._table = list(table)

    @property
    def table(self):
        """The triples (held_first, held_second, potential); none if there is no greatest gain."""
        return list(self._table)


def excess(first, second, catalog, *, letters, most):
    """Look for the greatest gain of all stacks of the letters."""
    if most < 1:
        raise BadBound(most)
    signs = ascending_signs(letters)

    def pair_after(pair, char):
        return _step(first, second, catalog, pair, char)[0]

    def never(pair):
        return False

    found = walk(signs, _first_pair(first, second), pair_after, never, most=most)
    number_of = {pair: number for number, pair in enumerate(found.row_list)}
    moves = []
    for pair in found.row_list:
        steps = [_step(first, second, catalog, pair, char) for char in signs]
        moves.append([(number_of[after], gain) for after, gain in steps])
    ends = [_end_gain(first, second, catalog, pair) for pair in found.row_list]
    worths, round_trip = raised_worths(ends, moves)
    if round_trip:
        turn = "".join([signs[choice] for _, choice in round_trip])
        return Excess(None, None, (found.texts[round_trip[0][0]], turn), [])
    table = [(pair[0], pair[1], worth) for pair, worth in zip(found.row_list, worths)]
    return Excess(worths[0], _least_text(signs, ends, moves, worths), None, table)


def table_holds(first, second, catalog, table, *, letters):
    """True if the table shows that no stack of the letters has a gain above the potential of its first triple."""
    least_of = {}
    for held_first, held_second, potential in table:
        pair = (held_first, held_second)
        if pair not in least_of or potential < least_of[pair]:
            least_of[pair] = potential
    if len(table) == 0 or (table[0][0], table[0][1]) != _first_pair(first, second):
        return False
    return all([_pair_holds(first, second, catalog, pair, least_of, letters) for pair in least_of])


def _pair_holds(first, second, catalog, pair, least_of, letters):
    """True if the least potential of the pair is enough for the end of the stack and for every next character."""
    if least_of[pair] < _end_gain(first, second, catalog, pair):
        return False
    for char in letters:
        after, gain = _step(first, second, catalog, pair, char)
        if after not in least_of or least_of[after] + gain > least_of[pair]:
            return False
    return True


def _first_pair(first, second):
    """The held tuples of both lists at first."""
    return start(first), start(second)


def _step(first, second, catalog, pair, char):
    """The held tuples of both lists after the character, and what the character gains."""
    held_first, emitted_first = advance(first, pair[0], char)
    held_second, emitted_second = advance(second, pair[1], char)
    return (held_first, held_second), catalog.length(emitted_first) - catalog.length(emitted_second)


def _end_gain(first, second, catalog, pair):
    """What the end of the stack gains."""
    return catalog.length(finish(first, pair[0])) - catalog.length(finish(second, pair[1]))


def _least_text(signs, ends, moves, worths):
    """The least text whose every character keeps to the greatest gain."""

    def number_after(number, char):
        if number == NOWHERE:
            return NOWHERE
        target, gain = moves[number][signs.index(char)]
        return target if worths[target] + gain == worths[number] else NOWHERE

    def is_reached(number):
        return number != NOWHERE and ends[number] == worths[number]

    return walk(signs, 0, number_after, is_reached, most=len(ends) + 1).stop
