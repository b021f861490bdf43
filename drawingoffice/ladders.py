"""The levels of a card: what its rules ask of the values of its first steps (point 15 of the document)."""

from drawingoffice.cards import sorted_when
from drawingoffice.forms import Form, measured
from drawingoffice.names import FRAME

AT_FRAME = -1
NOT_ASKED = -1


class Line:
    """A rule of a level, with numbers in the place of names.

    `upper` and `lower` are the indexes of two part steps or AT_FRAME; both are AT_FRAME if the line is closed.
    `times` has the multiple of each measure of the card, `options` the option of each turn or NOT_ASKED.
    `slope` is what the constant grows by when all measures are widened by 1. `origin` tells from which lines
    this one was made, in the form of a derivation, but with the lines themselves. `passed` has the bit
    `1 << at` for each part step `at` at which lines were joined on the way to this one.
    """

    def __init__(self, parts, constant, slope, times, options, origin, passed):
        closed = parts[0] == parts[1]
        self.upper = AT_FRAME if closed else parts[0]
        self.lower = AT_FRAME if closed else parts[1]
        self.constant = constant
        self.slope = slope
        self.times = times
        self.options = options
        self.origin = origin
        self.passed = passed


class Ladder:
    """The levels of a card, from the number of its steps down to `lowest`.

    If `growth` is 1, the levels are right for all widenings of the card: a measure with the ends `low` and
    `high` stands for `low - by` and `high + by`, and a line with a constant c and a slope s for c + s * by.
    """

    def __init__(self, card, *, lowest=0, growth=0):
        self._steps = card.steps
        self._measures = [at for at, step in enumerate(self._steps) if step[0] == "measure"]
        self._turns = [at for at, step in enumerate(self._steps) if step[0] == "turn"]
        self._ends = [self._steps[at][2:] for at in self._measures]
        self._growth = growth
        top = len(self._steps)
        self._levels = {top: self._pruned(self._written(card.rules))}
        for at in reversed(range(lowest, top)):
            self._levels[at] = self._pruned(self._below(at))

    def level(self, at):
        """The lines of the level with this number."""
        return list(self._levels[at])

    def is_saved(self, told):
        """True if the state is saved."""
        for line in self._levels[len(told)]:
            if self._counts(line, told):
                room = _place(line.upper, told) - _place(line.lower, told)
                if room < self._worth(line, told):
                    return False
        return True

    def places(self, told):
        """The least and the greatest place that lead from a saved state to a saved one; None where there is none."""
        at = len(told)
        counting = [line for line in self._levels[at + 1] if self._counts(line, told)]
        lows = [_place(line.lower, told) + self._worth(line, told) for line in counting if line.upper == at]
        highs = [_place(line.upper, told) - self._worth(line, told) for line in counting if line.lower == at]
        return max([int(low) for low in lows], default=None), min([int(high) for high in highs], default=None)

    def bounds(self, at):
        """What the place of the part step `at` is compared with: the entries of a plan from below and from above."""
        lines = self._levels[at + 1]
        lows = [self._entry(line.lower, line, 1) for line in lines if line.upper == at]
        highs = [self._entry(line.upper, line, -1) for line in lines if line.lower == at]
        return lows, highs

    def _written(self, rules):
        """The lines of the rules of the card."""
        index_of = {step[1]: at for at, step in enumerate(self._steps)}
        index_of[FRAME] = AT_FRAME
        lines = []
        for number, (upper, lower, form, when) in enumerate(rules):
            multiples = {index_of[term[0]]: term[1] for term in form.terms}
            asked = {index_of[turn]: option for turn, option in when}
            times = tuple([multiples.get(at, 0) for at in self._measures])
            options = tuple([asked.get(at, NOT_ASKED) for at in self._turns])
            parts = (index_of[upper], index_of[lower])
            lines.append(Line(parts, form.constant, 0, times, options, ("rule", number), 0))
        return lines

    def _below(self, at):
        """The lines of level `at`, made from those of the level above it."""
        kind = self._steps[at][0]
        if kind == "measure":
            return [self._with_worst(line, at) for line in self._levels[at + 1]]
        if kind == "turn":
            return [self._freed(line, at) for line in self._levels[at + 1]]
        return self._joined(at)

    def _with_worst(self, line, at):
        """The line with that end of the measure that makes its form greatest."""
        number = self._measures.index(at)
        times = line.times[number]
        if times == 0:
            return line
        low, high = self._ends[number]
        worst = high if times > 0 else low
        constant = line.constant + times * worst
        slope = line.slope + self._growth * abs(times)
        left = line.times[:number] + (0,) + line.times[number + 1:]
        origin = ("worst", line, self._steps[at][1], worst)
        return Line((line.upper, line.lower), constant, slope, left, line.options, origin, line.passed)

    def _freed(self, line, at):
        """The line without its pair of the turn."""
        number = self._turns.index(at)
        if line.options[number] == NOT_ASKED:
            return line
        left = line.options[:number] + (NOT_ASKED,) + line.options[number + 1:]
        origin = ("free", line, self._steps[at][1])
        return Line((line.upper, line.lower), line.constant, line.slope, line.times, left, origin, line.passed)

    def _joined(self, at):
        """The lines without the part, and those that are joined from two lines with the part."""
        above = self._levels[at + 1]
        lines = [line for line in above if line.upper != at and line.lower != at]
        seconds = [line for line in above if line.lower == at]
        block = self._block_behind(at)
        for first in above:
            if first.upper == at:
                for second in seconds:
                    # Two lines that both come by a part of the block make a round there. Without the round they
                    # are a line that is there anyway, and the round itself is a closed line.
                    if (first.passed & second.passed & block) == 0 and _agree(first.options, second.options):
                        lines.append(_join(first, second, at, self._steps[at][1]))
        return lines

    def _block_behind(self, at):
        """The bits of the part steps behind `at` that no measure step and no turn step parts from it."""
        bits = 0
        later = at + 1
        while later < len(self._steps) and self._steps[later][0] == "part":
            bits = bits | (1 << later)
            later = later + 1
        return bits

    def _pruned(self, lines):
        """The lines without those that another one makes needless."""
        times = (0,) * len(self._measures)
        always = Line((AT_FRAME, AT_FRAME), 0, 0, times, (NOT_ASKED,) * len(self._turns), None, 0)
        kept = {(AT_FRAME, AT_FRAME): [always]}
        for line in lines:
            parts = (line.upper, line.lower)
            group = kept.get(parts, [])
            if not self._is_needless(line, group):
                kept[parts] = [other for other in group if not self._covers(line, other)] + [line]
        return [line for parts in kept for line in kept[parts] if line.origin is not None]

    def _is_needless(self, line, group):
        for other in group:
            if self._covers(other, line):
                return True
        return False

    def _covers(self, one, other):
        """True if line `one` asks for at least as much as line `other`, which has the same parts, and as often."""
        for mine, its in zip(one.options, other.options):
            if mine != NOT_ASKED and mine != its:
                return False
        constant = one.constant - other.constant
        slope = one.slope - other.slope
        for (low, high), mine, its in zip(self._ends, one.times, other.times):
            if mine != its:
                constant = constant + (mine - its) * (low if mine > its else high)
                slope = slope - self._growth * abs(mine - its)
        return constant >= 0 and slope >= 0

    def _counts(self, line, told):
        for at, option in zip(self._turns, line.options):
            if option != NOT_ASKED and told[at] != option:
                return False
        return True

    def _worth(self, line, told):
        """The value of the form of the line."""
        total = line.constant
        for at, times in zip(self._measures, line.times):
            if times != 0:
                total = total + times * told[at]
        return total

    def _entry(self, other, line, sign):
        """An entry of a plan: the other part, the form of the line times the sign, and its pairs."""
        form = Form(sign * line.constant)
        for at, times in zip(self._measures, line.times):
            name, low, high = self._steps[at][1:]
            form = form + measured(name, low=low, high=high) * (sign * times)
        asked = {}
        for at, option in zip(self._turns, line.options):
            if option != NOT_ASKED:
                asked[self._steps[at][1]] = option
        return FRAME if other == AT_FRAME else self._steps[other][1], form, sorted_when(asked)


def _place(at, told):
    return 0 if at == AT_FRAME else told[at]


def _agree(first, second):
    """True if the two do not ask for different options of the same turn."""
    for one, two in zip(first, second):
        if one != two and one != NOT_ASKED and two != NOT_ASKED:
            return False
    return True


def _join(first, second, at, part):
    """The line that follows from both, in which the part with the step `at` does not stand any more."""
    times = tuple([one + two for one, two in zip(first.times, second.times)])
    options = tuple([two if one == NOT_ASKED else one for one, two in zip(first.options, second.options)])
    origin = ("join", first, second, part)
    constant = first.constant + second.constant
    slope = first.slope + second.slope
    passed = first.passed | second.passed | (1 << at)
    return Line((second.upper, first.lower), constant, slope, times, options, origin, passed)
