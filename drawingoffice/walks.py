"""Searches through texts in ascending order that keep one text for each row (point 29 of the document)."""

from drawingoffice.errors import TooManyRows


class Walk:
    """What a search found.

    `stop` is the text at which it stopped, or None if no text was left. `row_list` are the rows that it kept, and
    `texts` the least texts with these rows, in ascending order.
    """

    def __init__(self, stop, texts, row_list):
        self.stop = stop
        self.texts = texts
        self.row_list = row_list


def walk(letters, first, after, stops, *, most):
    """Search the texts of the letters, which ascend.

    `first` is the row of the empty text, `after(row, char)` the row of a text with one more character, and
    `stops(row)` tells whether the search stops at a text with this row.
    """
    if stops(first):
        return Walk("", [], [])
    texts = [""]
    rows = [first]
    kept = {first: True}
    at = 0
    while at < len(rows):
        for char in letters:
            row = after(rows[at], char)
            if stops(row):
                return Walk(texts[at] + char, texts, rows)
            if row not in kept:
                if len(rows) >= most:
                    raise TooManyRows(most)
                kept[row] = True
                texts.append(texts[at] + char)
                rows.append(row)
        at = at + 1
    return Walk(None, texts, rows)
