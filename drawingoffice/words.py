"""Whether a word can stand in what a list of replacements leaves (point 31 of the document)."""

from drawingoffice.errors import BadBound
from drawingoffice.holding import advance, finish, start
from drawingoffice.texts import ascending_signs, ending_that_begins
from drawingoffice.walks import walk


class Search:
    """The outcome of a search: the least stack in whose result the word stands, with that result."""

    def __init__(self, found, text, result):
        self.found = found
        self.text = text
        self.result = result


def remains(steps, word, *, most):
    """Search the least stack for which the list leaves a text that contains the word."""
    if most < 1:
        raise BadBound(most)
    if word == "":
        return Search(True, "", steps(""))

    def row_after(row, char):
        held, emitted = advance(steps, row[0], char)
        seen = row[1] + emitted
        # Where the word was emitted the search stops, so None is the row of no text that goes on.
        return None if word in seen else (held, ending_that_begins(seen, word))

    def remains_in(row):
        return row is None or word in row[1] + finish(steps, row[0])

    text = walk(ascending_signs(steps.alphabet + word), (start(steps), ""), row_after, remains_in, most=most).stop
    if text is None:
        return Search(False, None, None)
    return Search(True, text, steps(text))
