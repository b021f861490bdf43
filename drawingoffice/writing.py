"""The written forms of limits, facts, binders and programs (points 78 to 81 of the document)."""


def write_limit(limit):
    """The written form of a limit."""
    constant, terms = limit[-1]
    stack = ["=" + limit[3]] if limit[0] == "room" else []
    return " ".join(list(limit[:3]) + stack + [str(constant)] + [f"{times}*{name}" for name, times in terms])


def write_fact(fact):
    """The written form of a fact."""
    words = [fact[0]] + list(fact[1])
    for run in fact[2:]:
        words.extend(["=", *run])
    return " ".join(words)


def write_binder(binder):
    """The written form of a binder."""
    lines = []
    for name, sheet in binder.drawings.items():
        lines.append("sheet " + name)
        lines.extend(["has " + write_limit(limit) for limit in sheet])
    for name, change in binder.changes.items():
        lines.append(("void " if change.is_void else "change ") + name)
        for word, limits in (("lost", change.lost), ("gained", change.gained),
                             ("kept", change.kept), ("barred", change.barred)):
            lines.extend([word + " " + write_limit(limit) for limit in limits])
    lines.extend([write_fact(fact) for fact in binder])
    return "".join([line + "\n" for line in lines])


def write_program(program):
    """The written form of a program."""
    lines = []
    for name, params, body in program:
        words = ["def", name] + [f"{param}/{count}" for param, count in params] + [":"]
        lines.append(" ".join(words + _body_words(body)))
    return "".join([line + "\n" for line in lines])


def _body_words(body):
    kind = body[0]
    if kind == "stop":
        return ["stop"]
    if kind == "do":
        return ["do", body[1]] + _body_words(body[2])
    if kind == "choose":
        return ["choose", str(len(body[1]))] + [word for inner in body[1] for word in _body_words(inner)]
    if kind == "shows":
        return ["shows", write_limit(body[1]), ";"] + _body_words(body[2])
    if kind == "call":
        arguments = [word for argument in body[2] for word in _argument_words(argument)]
        return ["call", body[1], str(len(body[2]))] + arguments
    return [kind, str(len(body[1]))] + [str(state) for state in body[1]] + _body_words(body[2])


def _argument_words(argument):
    if argument[0] == "use":
        return ["use", argument[1]]
    return ["make", str(len(argument[1]))] + list(argument[1]) + _body_words(argument[2])
