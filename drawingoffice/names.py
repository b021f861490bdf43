"""Names, and the word that is reserved for the frame (points 4 and 6 of the document)."""

from drawingoffice.errors import BadName

FRAME = "frame"
FIRST_SIGNS = "abcdefghijklmnopqrstuvwxyz"
LATER_SIGNS = "abcdefghijklmnopqrstuvwxyz0123456789"
LONGEST_NAME = 12


def is_name(text):
    """True if the string is a name; the word `frame` is one, too."""
    if not 1 <= len(text) <= LONGEST_NAME or text[0] not in FIRST_SIGNS:
        return False
    return all([char in LATER_SIGNS for char in text])


def check_name(text):
    """Raise BadName unless the string is a name that a measure, a turn or a part can have."""
    if text == FRAME or not is_name(text):
        raise BadName(text)
