"""Whether two lists of replacements leave the same text for all stacks (point 29 of the document)."""

from drawingoffice.errors import BadBound
from drawingoffice.holding import advance, finish, start
from drawingoffice.texts import ascending_signs
from drawingoffice.walks import walk


class Verdict:
    """The outcome of a comparison: the least text for which two lists differ, with what they leave for it."""

    def __init__(self, same, text, results):
        self.same = same
        self.text = text
        self.results = results


def compare(first, second, *, most):
    """Compare two lists of replacements for all stacks."""
    if most < 1:
        raise BadBound(most)

    def row_after(row, char):
        return _row_after(first, second, row, char)

    def differs(row):
        return row is None or not _agrees(first, second, row)

    letters = ascending_signs(first.alphabet + second.alphabet)
    text = walk(letters, (start(first), start(second), "", ""), row_after, differs, most=most).stop
    if text is None:
        return Verdict(True, None, None)
    return Verdict(False, text, (first(text), second(text)))


def _row_after(first, second, row, char):
    """The row of a text with one more character; None if neither list is ahead of the other one."""
    held_first, held_second, ahead_first, ahead_second = row
    held_first, emitted_first = advance(first, held_first, char)
    held_second, emitted_second = advance(second, held_second, char)
    all_first = ahead_first + emitted_first
    all_second = ahead_second + emitted_second
    if all_first.startswith(all_second):
        return held_first, held_second, all_first[len(all_second):], ""
    if all_second.startswith(all_first):
        return held_first, held_second, "", all_second[len(all_first):]
    return None


def _agrees(first, second, row):
    """True if both lists leave the same text where the stack ends with this row."""
    held_first, held_second, ahead_first, ahead_second = row
    return ahead_first + finish(first, held_first) == ahead_second + finish(second, held_second)
