"""Programs with numbers in the place of names."""

from drawingoffice.bodies import inner_bodies


class Frame:
    """The names that a definition binds, by their slots: first its parameters, then the names of its closures.

    `counts` has the number of commands that each name takes. `groups` has None for each parameter, and for each name
    of a closure the first slot of this closure.
    """

    def __init__(self, name, counts):
        self.name = name
        self.counts = list(counts)
        self.groups = [None for _ in self.counts]


class Node:
    """A body with its number and its frame.

    `inner` has the nodes of its bodies without those of closures. A call has the slot of the name, or None if it
    calls a definition, and its arguments.
    """

    def __init__(self, number, body, frame):
        self.number = number
        self.body = body
        self.frame = frame
        self.inner = []
        self.slot = None
        self.givens = []


class Given:
    """An argument with its number.

    One that is handed on has its slot, or the name of a definition. A closure has the node of its body, the first
    one of its own slots, and in `outer` the slots from around that it uses.
    """

    def __init__(self, number, frame, slot, name):
        self.number = number
        self.frame = frame
        self.slot = slot
        self.name = name
        self.node = None
        self.first = 0
        self.outer = []


class Outline:
    """The bodies and arguments of a program.

    `nodes` and `givens` have them by their numbers, `roots` the nodes of the bodies of definitions, by the names.
    """

    def __init__(self, program):
        self.nodes = []
        self.givens = []
        self.roots = {}
        for name, params, body in program:
            frame = Frame(name, [count for _, count in params])
            scope = {param: slot for slot, (param, _) in enumerate(params)}
            self.roots[name] = self._add_node(body, scope, frame)

    def _add_node(self, body, scope, frame):
        made = Node(len(self.nodes), body, frame)
        self.nodes.append(made)
        if body[0] == "call":
            made.slot = scope.get(body[1])
            made.givens = [self._add_given(argument, scope, frame) for argument in body[2]]
        else:
            made.inner = [self._add_node(inner, scope, frame) for inner in inner_bodies(body)]
        return made

    def _add_given(self, argument, scope, frame):
        if argument[0] == "use":
            made = Given(len(self.givens), frame, scope.get(argument[1]), argument[1])
            self.givens.append(made)
            return made
        made = Given(len(self.givens), frame, None, None)
        self.givens.append(made)
        made.first = len(frame.groups)
        inner_scope = dict(scope)
        for name in argument[1]:
            inner_scope[name] = len(frame.groups)
            frame.groups.append(made.first)
            frame.counts.append(0)
        made.node = self._add_node(argument[2], inner_scope, frame)
        made.outer = sorted(set([slot for slot in _used_slots(made.node) if slot < made.first]))
        return made


def _used_slots(node):
    """The slots that the body uses, those of closures in it too."""
    used = [] if node.slot is None else [node.slot]
    for given in node.givens:
        if given.node is not None:
            used.extend(_used_slots(given.node))
        elif given.slot is not None:
            used.append(given.slot)
    for inner in node.inner:
        used.extend(_used_slots(inner))
    return used
