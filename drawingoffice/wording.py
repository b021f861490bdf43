"""The words of a line, read one after the other (points 78 to 81 of the document)."""

from drawingoffice.errors import BadLine
from drawingoffice.facts import RUN_COUNTS, is_fact
from drawingoffice.limits import SIZES, is_limit
from drawingoffice.names import is_name
from drawingoffice.runs import is_step

DIGITS = "0123456789"
MOST_DIGITS = 60


class Words:
    """A line that is read from left to right; what is in none of the written forms raises BadLine."""

    def __init__(self, text, line):
        self._words = text.split(" ")
        self._line = line
        self._at = 0

    def next_word(self):
        """The next word."""
        if self._at == len(self._words):
            raise BadLine(self._line)
        self._at = self._at + 1
        return self._words[self._at - 1]

    def next_among(self, allowed):
        """The next word, one of those that are allowed."""
        word = self.next_word()
        if word not in allowed:
            raise BadLine(self._line)
        return word

    def next_name(self):
        """The next word, a name."""
        word = self.next_word()
        if not is_name(word):
            raise BadLine(self._line)
        return word

    def next_event(self):
        """The next word, a revision step or a name."""
        word = self.next_word()
        if not is_step(word) and not is_name(word):
            raise BadLine(self._line)
        return word

    def next_number(self):
        """The next word, a number."""
        number = number_of(self.next_word())
        if number is None:
            raise BadLine(self._line)
        return number

    def next_count(self):
        """The next word, a number that is not negative."""
        number = self.next_number()
        if number < 0:
            raise BadLine(self._line)
        return number

    def next_positive(self):
        """The next word, a number of at least 1."""
        number = self.next_number()
        if number < 1:
            raise BadLine(self._line)
        return number

    def next_params(self):
        """The parameters up to the word `:`, which is read, too, as a tuple of pairs of a name and a count."""
        found = []
        for word in self._words_until(":"):
            name, _, digits = word.partition("/")
            count = number_of(digits)
            if not is_name(name) or count is None or count < 0:
                raise BadLine(self._line)
            found.append((name, count))
        return tuple(found)

    def limit_until(self, mark):
        """The limit up to the mark, which is read, too."""
        limit = limit_of(self._words_until(mark))
        if limit is None:
            raise BadLine(self._line)
        return limit

    def check_end(self):
        """Raise BadLine unless all words are read."""
        if self._at < len(self._words):
            raise BadLine(self._line)

    def _words_until(self, mark):
        found = []
        word = self.next_word()
        while word != mark:
            found.append(word)
            word = self.next_word()
        return found


def number_of(word):
    """The number that is written as the word, or None."""
    digits = word[1:] if word[:1] == "-" else word
    if not 1 <= len(digits) <= MOST_DIGITS or not all([digit in DIGITS for digit in digits]):
        return None
    if digits[0] == "0" and word != "0":
        return None
    return int(word)


def limit_of(words):
    """The limit that is written as the words, or None."""
    size = SIZES.get(words[0], 0) if words else 0
    if size == 0 or len(words) < size:
        return None
    told = tuple(words[:size - 1])
    if words[0] == "room":
        if words[3][:1] != "=":
            return None
        told = tuple(words[:3]) + (words[3][1:],)
    constant = number_of(words[size - 1])
    terms = [_term_of(word) for word in words[size:]]
    if constant is None or None in terms:
        return None
    limit = told + ((constant, tuple(terms)),)
    return limit if is_limit(limit) else None


def fact_of(words):
    """The fact that is written as the words, or None."""
    if words[0] not in RUN_COUNTS:
        return None
    fact = (words[0], tuple(words[1:]))
    if RUN_COUNTS[words[0]] == 2 and "=" in words:
        at = words.index("=")
        fact = (words[0], tuple(words[1:at]), tuple(words[at + 1:]))
    return fact if is_fact(fact) else None


def _term_of(word):
    """The pair of a name and a multiple that is written as the word, or None."""
    digits, star, name = word.partition("*")
    times = number_of(digits)
    return None if times is None or star == "" else (name, times)
