"""The errors that the program raises."""


class OfficeError(ValueError):
    """The base class of all errors that the program raises."""


class BadName(OfficeError):
    """A string is not a name, or it is the word `frame`."""
    def __init__(self, name):
        self.name = name


class NameTaken(OfficeError):
    """An earlier step has the name."""
    def __init__(self, name):
        self.name = name


class UnknownName(OfficeError):
    """Nothing of the wanted kind has the name."""
    def __init__(self, name):
        self.name = name


class UnlikeEnds(OfficeError):
    """A measure stands in two places with different ends."""
    def __init__(self, name):
        self.name = name


class SamePart(OfficeError):
    """A rule names the same part twice."""
    def __init__(self, name):
        self.name = name


class BadEnds(OfficeError):
    """The low end is greater than the high end."""
    def __init__(self, low, high):
        self.low = low
        self.high = high


class BadCount(OfficeError):
    """A turn has fewer options than 1."""
    def __init__(self, options):
        self.options = options


class TurnTwice(OfficeError):
    """A rule asks twice for the same turn."""
    def __init__(self, name):
        self.name = name


class BadOption(OfficeError):
    """The turn does not have the option."""
    def __init__(self, name, option):
        self.name = name
        self.option = option


class CardFull(OfficeError):
    """The card takes no further act of the kind."""
    def __init__(self, kind):
        self.kind = kind


class CardEmpty(OfficeError):
    """The card has no act that could be taken back."""


class BadTold(OfficeError):
    """The value with this index makes a list of values no state of the card."""
    def __init__(self, at):
        self.at = at


class NotItsTurn(OfficeError):
    """The player does not play the step with this index."""
    def __init__(self, at):
        self.at = at


class StateLost(OfficeError):
    """A setter was called with a lost state."""
    def __init__(self, at):
        self.at = at


class StateSaved(OfficeError):
    """A breaker was called with a saved state."""
    def __init__(self, at):
        self.at = at


class WrongCount(OfficeError):
    """A list of values does not have the length that is due."""
    def __init__(self, due):
        self.due = due


class CardSure(OfficeError):
    """The card is sure, so nothing can show that it is not."""


class CardUnsure(OfficeError):
    """The card is not sure."""


class BadWidening(OfficeError):
    """Measures are widened by a number below 0."""
    def __init__(self, by):
        self.by = by


class BadPosition(OfficeError):
    """The number is not the index of a step."""
    def __init__(self, to):
        self.to = to


class TooManySteps(OfficeError):
    """A list of replacements would have too many steps."""
    def __init__(self, step_count):
        self.step_count = step_count


class TooMuchGrowth(OfficeError):
    """A list of replacements could lengthen a stack too much."""
    def __init__(self, growth_factor):
        self.growth_factor = growth_factor


class TooManyRows(OfficeError):
    """A search would have to keep more rows than it may."""
    def __init__(self, bound):
        self.bound = bound


class BadBound(OfficeError):
    """A bound is less than 1."""
    def __init__(self, bound):
        self.bound = bound


class NeverRests(OfficeError):
    """A list of replacements does not rest after the allowed runs."""
    def __init__(self, text):
        self.text = text


class BadLimit(OfficeError):
    """A value is not a limit."""
    def __init__(self, limit):
        self.limit = limit


class BadChange(OfficeError):
    """A limit stands in two lists of a change."""
    def __init__(self, limit):
        self.limit = limit


class DoesNotGo(OfficeError):
    """A change does not go on a sheet."""
    def __init__(self, limit):
        self.limit = limit


class UnknownChange(OfficeError):
    """No change has the name."""
    def __init__(self, name):
        self.name = name


class NoOrder(OfficeError):
    """No order of the changes goes on the sheet."""


class BadRun(OfficeError):
    """A tuple of strings is not a run."""
    def __init__(self, run):
        self.run = run


class BadStore(OfficeError):
    """The parts do not make a store."""


class UnknownStart(OfficeError):
    """No start has the name."""
    def __init__(self, name):
        self.name = name


class BadFact(OfficeError):
    """The value with this index is not a fact."""
    def __init__(self, at):
        self.at = at


class CannotBear(OfficeError):
    """The store does not bear the drawings."""


class NoStore(OfficeError):
    """No store fits the facts up to the index `at`."""
    def __init__(self, at, by):
        self.at = at
        self.by = by


class NotForced(OfficeError):
    """The facts leave the answer open."""


class BadRules(OfficeError):
    """The parts do not make rules."""
    def __init__(self, where):
        self.where = where


class UnknownState(OfficeError):
    """There is no state with this number."""
    def __init__(self, state):
        self.state = state


class UnknownEvent(OfficeError):
    """The event is not known."""
    def __init__(self, event):
        self.event = event


class UnknownLetter(OfficeError):
    """The catalog does not have the character."""
    def __init__(self, char):
        self.char = char


class DuplicateName(OfficeError):
    """The name is given twice."""
    def __init__(self, name):
        self.name = name


class WrongArguments(OfficeError):
    """The arguments of a call do not fit what is called."""
    def __init__(self, name):
        self.name = name


class NeedsArguments(OfficeError):
    """A run cannot start at a definition that has parameters."""
    def __init__(self, name):
        self.name = name


class BadChoice(OfficeError):
    """The choice with this index is not the index of a body."""
    def __init__(self, at, choice):
        self.at = at
        self.choice = choice


class NoRun(OfficeError):
    """No run goes wrong."""


class KindMismatch(OfficeError):
    """Two definitions have different parameters."""
    def __init__(self, wanted, found):
        self.wanted = wanted
        self.found = found


class RunFails(OfficeError):
    """The run does not go in the folded store."""


class LateFails(OfficeError):
    """The run of a late row does not go."""
    def __init__(self, row):
        self.row = row


class DoesNotFit(OfficeError):
    """The store does not fit the binder."""


class IsCleared(OfficeError):
    """The office is cleared."""


class NotCleared(OfficeError):
    """The office is not cleared."""


class UnlikeCatalogs(OfficeError):
    """The catalogs of two stocks differ."""


class NoParting(OfficeError):
    """No office tells the two stocks apart."""


class BadLine(OfficeError):
    """The line with this number is in none of the written forms."""
    def __init__(self, line):
        self.line = line
