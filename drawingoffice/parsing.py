"""Reading the written forms of limits, facts, binders and programs (points 78 to 81 of the document)."""

from drawingoffice.binders import Binder
from drawingoffice.changes import Change
from drawingoffice.errors import BadLine
from drawingoffice.names import is_name
from drawingoffice.programs import Program
from drawingoffice.sheets import Sheet
from drawingoffice.wording import Words, fact_of, limit_of

TOUCHES = ("lost", "gained", "kept", "barred")
BODIES = ("stop", "do", "choose", "when", "mode", "shows", "call")


class BinderLines:
    """What the lines of a binder say, up to the one that was taken last."""

    def __init__(self):
        # The limits of each drawing, and of each revision by their words; no words for the void change.
        self._sheets = {}
        self._changes = {}
        self._facts = []
        self._kind = ""
        self._limits = {}

    def take(self, text, line):
        """Take the next line."""
        words = text.split(" ")
        if words[0] in ("sheet", "change", "void"):
            self._begin(words, line)
        elif words[0] == "has" or words[0] in TOUCHES:
            self._add_limit(words, line)
        else:
            fact = fact_of(words)
            if fact is None:
                raise BadLine(line)
            self._facts.append(fact)
        self._kind = words[0]

    def made_binder(self):
        """The binder that the lines tell."""
        drawings = {name: Sheet(self._sheets[name]["has"]) for name in self._sheets}
        changes = {name: _change_of(self._changes[name]) for name in self._changes}
        return Binder(drawings, changes, self._facts)

    def _begin(self, words, line):
        """Take the first line of a drawing or a revision."""
        if len(words) != 2 or not is_name(words[1]) or self._facts:
            raise BadLine(line)
        if words[0] == "sheet" and self._changes:
            raise BadLine(line)
        known = self._sheets if words[0] == "sheet" else self._changes
        if words[1] in known:
            raise BadLine(line)
        kinds = {"sheet": ("has",), "change": TOUCHES, "void": ()}
        self._limits = {kind: [] for kind in kinds[words[0]]}
        known[words[1]] = self._limits

    def _add_limit(self, words, line):
        befores = ("sheet", "has") if words[0] == "has" else ("change",) + TOUCHES
        limit = limit_of(words[1:])
        if self._kind not in befores or limit is None:
            raise BadLine(line)
        self._limits[words[0]].append(limit)


def read_limit(text):
    """The limit with this written form."""
    limit = limit_of(text.split(" "))
    if limit is None:
        raise BadLine(1)
    return limit


def read_fact(text):
    """The fact with this written form."""
    fact = fact_of(text.split(" "))
    if fact is None:
        raise BadLine(1)
    return fact


def read_binder(text):
    """The binder with this written form, whose lines may come in other orders, too."""
    lines = BinderLines()
    for at, line in enumerate(_lines_of(text)):
        lines.take(line, at + 1)
    return lines.made_binder()


def read_program(text):
    """The program with this written form."""
    return Program([_definition_of(Words(line, at + 1)) for at, line in enumerate(_lines_of(text))])


def _lines_of(text):
    """The lines of the text, of which the last one may lack its newline."""
    lines = text.split("\n")
    return lines[:-1] if lines[-1] == "" else lines


def _change_of(limits):
    if not limits:
        return Change.nowhere()
    return Change(limits["lost"], limits["gained"], kept=limits["kept"], barred=limits["barred"])


def _definition_of(words):
    words.next_among(("def",))
    name = words.next_name()
    params = words.next_params()
    body = _body_of(words)
    words.check_end()
    return name, params, body


def _body_of(words):
    kind = words.next_among(BODIES)
    if kind == "stop":
        return ("stop",)
    if kind == "do":
        event = words.next_event()
        return "do", event, _body_of(words)
    if kind == "choose":
        return "choose", tuple([_body_of(words) for _ in range(words.next_positive())])
    if kind == "shows":
        limit = words.limit_until(";")
        return "shows", limit, _body_of(words)
    if kind == "call":
        name = words.next_name()
        return "call", name, tuple([_argument_of(words) for _ in range(words.next_count())])
    states = tuple([words.next_number() for _ in range(words.next_count())])
    return kind, states, _body_of(words)


def _argument_of(words):
    if words.next_among(("use", "make")) == "use":
        return "use", words.next_name()
    names = tuple([words.next_name() for _ in range(words.next_count())])
    return "make", names, _body_of(words)
