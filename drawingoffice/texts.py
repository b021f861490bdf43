"""Texts of characters: what several modules ask of them."""

PER_CENT = 37


def ascending_signs(text):
    """The characters of the text in ascending order, each once."""
    found = {char: True for char in text}
    return "".join(sorted([str(char) for char in found]))


def ending_that_begins(text, word):
    """The longest ending of the text that is a beginning of the word and shorter than the word."""
    for size in reversed(range(1, min(len(text), len(word) - 1) + 1)):
        ending = text[len(text) - size:]
        if word.startswith(ending):
            return ending
    return ""


def is_text(text):
    """True if the string consists of characters: signs without the blank and without the sign for per cent."""
    return all(["!" <= char <= "~" and ord(char) != PER_CENT for char in text])
