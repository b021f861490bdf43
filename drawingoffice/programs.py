"""Programs, which are lists of definitions (points 57 to 59 of the document)."""

from drawingoffice.bodies import inner_bodies
from drawingoffice.errors import DuplicateName, UnknownName, WrongArguments


class Program:
    """Definitions that may call each other; it never changes."""

    def __init__(self, definitions):
        self._definitions = list(definitions)
        self._known = {}
        for definition in self._definitions:
            if definition[0] in self._known:
                raise DuplicateName(definition[0])
            self._known[definition[0]] = definition
        for _, params, body in self._definitions:
            bound = {}
            for name, count in params:
                _bind(name, count, bound, self._known)
            _check_body(body, dict(bound), bound, self._known)

    @property
    def names(self):
        """The names of the definitions in order."""
        return [definition[0] for definition in self._definitions]

    def extended(self, definitions):
        """The program with further definitions behind its own."""
        return Program([*self._definitions, *definitions])

    def __getitem__(self, at):
        if at not in self._known:
            raise UnknownName(at)
        return self._known[at]

    def __contains__(self, x):
        return x in self._known

    def __iter__(self):
        return iter(self._definitions)


def _bind(name, count, bound, known):
    """Note that the definition binds the name; `bound` has the number of commands that each bound name takes."""
    if name in known or name in bound:
        raise DuplicateName(name)
    bound[name] = count


def _check_body(body, scope, bound, known):
    """Raise an error unless the body is right.

    `scope` and `bound` have the number of commands that the names in scope and the names that are bound so far
    take, `known` the definitions by their names.
    """
    if body[0] != "call":
        for inner in inner_bodies(body):
            _check_body(inner, scope, bound, known)
        return
    _, called, arguments = body
    for argument, kind in zip(arguments, _wanted_kinds(called, len(arguments), scope, known)):
        if argument[0] == "use":
            if _kind(argument[1], scope, known) != kind:
                raise WrongArguments(called)
        elif len(argument[1]) != kind:
            raise WrongArguments(called)
        else:
            _check_closure(argument[1], argument[2], scope, bound, known)


def _check_closure(names, body, scope, bound, known):
    inner_scope = dict(scope)
    for name in names:
        _bind(name, 0, bound, known)
        inner_scope[name] = 0
    _check_body(body, inner_scope, bound, known)


def _wanted_kinds(name, passed, scope, known):
    """The kinds of the arguments that a call of the name passes, if it passes the right number of them."""
    if name not in scope and name not in known:
        raise UnknownName(name)
    if passed != (scope[name] if name in scope else len(known[name][1])):
        raise WrongArguments(name)
    return [0] * passed if name in scope else [count for _, count in known[name][1]]


def _kind(name, scope, known):
    """The number of commands that the name takes where it is handed on; None if it cannot be handed on."""
    if name in scope:
        return scope[name]
    if name not in known:
        raise UnknownName(name)
    counts = [count for _, count in known[name][1]]
    return len(counts) if all([count == 0 for count in counts]) else None
