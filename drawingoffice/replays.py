"""Runs of programs by listed choices (point 63 of the document)."""

from drawingoffice.errors import BadChoice
from drawingoffice.fitness import check_start
from drawingoffice.joints import is_met, is_wrong


class Closure:
    """Names to bind, a body, and the closures that stand for the names from around it."""

    def __init__(self, params, body, around):
        self.params = params
        self.body = body
        self.around = around


class Replay:
    """A run up to where it is now."""

    def __init__(self, program, joint, name, choices, limit):
        self._program = program
        self._joint = joint
        self._choices = list(choices)
        self._calls_left = limit
        self._body = program[name][2]
        self._bound = {}
        self._done = []
        self._state = 0
        self._used = 0

    def told(self, end):
        """What replay returns if the run ends here."""
        return end, list(self._done), self._state, self._used

    def step(self):
        """Go on by one body; return how the run ends there, or None."""
        kind = self._body[0]
        if kind == "stop":
            return "stopped"
        if kind == "do":
            return self._do()
        if kind == "choose":
            return self._choose()
        if kind == "call":
            return self._call()
        if not is_met(self._joint, self._state, self._body):
            return "stopped"
        self._body = self._body[2]
        return None

    def _do(self):
        _, event, body = self._body
        self._done.append(event)
        if is_wrong(self._joint, self._state, event):
            return "wrong"
        target = self._joint.next_state(self._state, event)
        if target is None:
            return "ended"
        self._state = target
        self._body = body
        return None

    def _choose(self):
        bodies = self._body[1]
        if self._used == len(self._choices):
            return "choices"
        choice = self._choices[self._used]
        if not 0 <= choice < len(bodies):
            raise BadChoice(self._used, choice)
        self._used = self._used + 1
        self._body = bodies[choice]
        return None

    def _call(self):
        if self._calls_left == 0:
            return "limit"
        self._calls_left = self._calls_left - 1
        _, name, arguments = self._body
        called = self._named(name)
        given = [self._value(argument) for argument in arguments]
        self._bound = dict(called.around)
        for param, value in zip(called.params, given):
            self._bound[param] = value
        self._body = called.body
        return None

    def _value(self, argument):
        if argument[0] == "use":
            return self._named(argument[1])
        return Closure(argument[1], argument[2], self._bound)

    def _named(self, name):
        """What the name stands for."""
        if name in self._bound:
            return self._bound[name]
        _, params, body = self._program[name]
        return Closure([param for param, _ in params], body, {})


def replay(program, joint, name, choices, *, limit=100):
    """Make one run by the choices; return how it ends, its events, the last state and the number of used choices."""
    check_start(program, joint, name)
    run = Replay(program, joint, name, choices, limit)
    end = None
    while end is None:
        end = run.step()
    return run.told(end)
