"""Stacks and lists of replacements for the tests, with the points of the document followed word by word."""

import random
from itertools import product

from drawingoffice.lists import Steps


def texts(letters, longest):
    """All texts of the letters up to a length, in ascending order of texts."""
    for size in range(longest + 1):
        for row in product(sorted(set(letters)), repeat=size):
            yield "".join(row)


def replaced(old, new, text):
    """A replace of point 25, done sign by sign."""
    out, at = "", 0
    while at < len(text):
        if text[at:at + len(old)] == old:
            out, at = out + new, at + len(old)
        else:
            out, at = out + text[at], at + 1
    return out


def left_by(steps, text):
    """What a list of step tuples leaves of a stack."""
    for step in steps:
        if step[0] == "replace":
            text = replaced(step[1], step[2], text)
        elif step[0] == "squeeze":
            while step[1] * 2 in text:
                text = text.replace(step[1] * 2, step[1])
        else:
            text = "".join(dict(step[1]).get(char, char) for char in text)
    return text


def random_steps(chance, count, letters="ab", longest=3):
    """A list of random steps whose texts are short."""
    rows = []
    for _ in range(count):
        kind = chance.choice(["replace", "replace", "squeeze", "map"])
        if kind == "replace":
            old = "".join(chance.choice(letters) for _ in range(chance.randint(1, longest)))
            rows.append(("replace", old, word(chance, letters, 2)))
        elif kind == "squeeze":
            rows.append(("squeeze", chance.choice(letters)))
        else:
            keys = chance.sample(letters, chance.randint(0, len(letters)))
            rows.append(("map", tuple((key, word(chance, letters, 2)) for key in keys)))
    return rows


def word(chance, letters, longest):
    return "".join(chance.choice(letters) for _ in range(chance.randint(0, longest)))


def many_lists(count, seed=0, letters="ab"):
    """Many random lists of 0 to 3 steps."""
    chance = random.Random(seed)
    return [Steps(random_steps(chance, chance.randint(0, 3), letters)) for _ in range(count)]


def search(letters, row_of, stops, most):
    """The search of point 29, text by text: the text at which it stops, None, or the word `full`."""
    kept_rows, kept_texts, level = [], [], [""]
    while level:
        longer = []
        for text in level:
            if stops(text):
                return text
            row = row_of(text)
            if row not in kept_rows:
                if len(kept_rows) >= most:
                    return "full"
                kept_rows.append(row)
                kept_texts.append(text)
                longer += [text + char for char in letters]
        level = longer
    return None
