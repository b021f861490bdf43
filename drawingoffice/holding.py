"""Lists of replacements that read a stack bit by bit (points 27 and 28 of the document)."""

from drawingoffice.texts import ending_that_begins


def start(steps):
    """The held tuple at first."""
    return ("",) * len(steps)


def advance(steps, held, text):
    """The held tuple after the text is read, and what the list emits meanwhile."""
    left = []
    for step, before in zip(steps, held):
        after, text = _read(step, before, text)
        left.append(after)
    return tuple(left), text


def finish(steps, held):
    """What the list emits at the end of the stack."""
    text = ""
    for step, before in zip(steps, held):
        after, emitted = _read(step, before, text)
        text = emitted + after
    return text


def _read(step, held, text):
    """What one step holds back after it reads the text, and what it emits meanwhile."""
    if step[0] == "replace":
        return _read_replacing(step[1], step[2], held, text)
    if step[0] == "squeeze":
        return _read_squeezing(step[1], held, text)
    table = {char: new for char, new in step[1]}
    return "", "".join([table.get(char, char) for char in text])


def _read_replacing(old, new, held, text):
    emitted = []
    for char in text:
        seen = held + char
        if seen == old:
            emitted.append(new)
            held = ""
        else:
            held = ending_that_begins(seen, old)
            emitted.append(seen[:len(seen) - len(held)])
    return held, "".join(emitted)


def _read_squeezing(squeezed, held, text):
    emitted = []
    for char in text:
        if char == squeezed:
            held = char
        else:
            emitted.append(held + char)
            held = ""
    return held, "".join(emitted)
