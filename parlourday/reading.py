"""Texts that are read word by word: a word is what stands between single blanks, perhaps nothing."""

from parlourday.errors import BadText
from parlourday.setups import is_comers


def is_digit(thing, low, high):
    """Whether a word, or None, is a single digit from low to high."""
    return thing is not None and len(thing) == 1 and "0" <= thing <= "9" and low <= int(thing) <= high


def comers_in(setup, word):
    """The comers of a setup that a word writes, None if it writes none."""
    parts = word.split("+")
    if len(parts) != 2 or not is_digit(parts[1], 0, 9):
        return None
    groups = () if parts[0] == "-" else sizes_in(parts[0])
    if groups is None:
        return None
    comers = (groups, int(parts[1]))
    return comers if is_comers(setup, comers) else None


def sizes_in(text):
    """The tuple of the digits of a text, None if it has none or something else."""
    if text == "" or not all([is_digit(sign, 0, 9) for sign in text]):
        return None
    return tuple([int(sign) for sign in text])


def span_in(word):
    """The tuple (low, high) that a word writes, None if it writes none, or not as it is written."""
    if is_digit(word, 0, 9):
        return (int(word), int(word))
    low, _, high = word.partition("-")
    if is_digit(low, 0, 9) and is_digit(high, 0, 9) and low < high:
        return (int(low), int(high))
    return None


class Reader:
    """The words of a text, and the place of the one that is read next.

    As words are read one by one, the place of one that is missing is the number of the words.
    """

    def __init__(self, text):
        if not isinstance(text, str):
            raise BadText(0)
        self.words = text.split(" ")
        self.place = 0

    def word(self, far=0):
        """The word that comes next, or so far behind it, None if there is none."""
        at = self.place + far
        return self.words[at] if at < len(self.words) else None

    def wanted(self, word):
        """Read this very word."""
        if self.word() != word:
            raise BadText(self.place)
        self.place += 1

    def number(self, low, high):
        """Read a digit from low to high."""
        word = self.word()
        if not is_digit(word, low, high):
            raise BadText(self.place)
        self.place += 1
        return int(word)

    def numbers(self, count, low, high):
        """Read so many digits, as a tuple."""
        return tuple([self.number(low, high) for _ in range(count)])

    def choice(self, most, behind):
        """Read one or two ascending digits, up to a word behind them, as a tuple."""
        first = self.number(1, most)
        if self.word() == behind:
            return (first,)
        return (first, self.number(first + 1, most))

    def one_of(self, words):
        """Read one of these words."""
        word = self.word()
        if word not in words:
            raise BadText(self.place)
        self.place += 1
        return word

    def span(self):
        """Read a range."""
        word = self.word()
        found = None if word is None else span_in(word)
        if found is None:
            raise BadText(self.place)
        self.place += 1
        return found

    def comers(self, setup):
        """Read comers of a setup."""
        word = self.word()
        found = None if word is None else comers_in(setup, word)
        if found is None:
            raise BadText(self.place)
        self.place += 1
        return found

    def end(self):
        """Read that no word is left."""
        if self.word() is not None:
            raise BadText(self.place)
