"""Lexemes: the words, numerals and signs that texts consist of, and a reader of them."""

from wakedenough.errors import BadText
from wakedenough.words import DIGITS, LETTERS, LETTERS_AND_DIGITS, LONGEST_WORD

BLANKS = " \n"
SIGNS = "{}[];:,-"
ARROW = "->"


def end_of(signs, text, place):
    """Return the first place, from a told one on, at which none of the signs stands."""
    while place < len(text) and text[place] in signs:
        place += 1
    return place


def word_at(text, place):
    """Return the word that begins at a letter, or None if it is too long for one."""
    word = text[place:end_of(LETTERS_AND_DIGITS, text, place)]
    if len(word) > LONGEST_WORD:
        return None
    return ("word", word, place)


def numeral_at(text, place):
    """Return the numeral that begins at a digit."""
    if text[place] == "0":
        return ("numeral", "0", place)
    return ("numeral", text[place:end_of(DIGITS, text, place)], place)


def sign_at(text, place):
    """Return the longest sign that begins at a place, or None if there is none."""
    if text.startswith(ARROW, place):
        return ("sign", ARROW, place)
    if text[place] in SIGNS:
        return ("sign", text[place], place)
    return None


def lexeme_at(text, place):
    """Return the lexeme that begins at a place of a text, or None if there is none."""
    if text[place] in LETTERS:
        return word_at(text, place)
    if text[place] in DIGITS:
        return numeral_at(text, place)
    return sign_at(text, place)


def scanned(text):
    """Return the lexemes up to the first character that begins none, and its place or None."""
    found = []
    place = end_of(BLANKS, text, 0)
    while place < len(text):
        lexeme = lexeme_at(text, place)
        if lexeme is None:
            return found, place
        found.append(lexeme)
        place = end_of(BLANKS, text, place + len(lexeme[1]))
    return found, None


def lexemes(text):
    """Return the list of the lexemes of a text; raise BadText where none begins."""
    found, bad = scanned(text)
    if bad is not None:
        raise BadText(bad)
    return found


class Reader:
    """What goes through the lexemes of a text, and raises BadText at its first wrong place."""

    def __init__(self, text):
        found, bad = scanned(text)
        self.found = found
        self.whole = bad is None
        self.end = len(text) if bad is None else bad
        self.at = 0

    def here(self):
        """Return the place of the lexeme ahead, or where the lexemes come to their end."""
        if self.at < len(self.found):
            return self.found[self.at][2]
        return self.end

    def sees(self, lexeme):
        """Return whether the lexeme ahead is a told one."""
        return self.at < len(self.found) and self.found[self.at][1] == lexeme

    def sees_sort(self, sort):
        """Return whether the lexeme ahead is of a told sort."""
        return self.at < len(self.found) and self.found[self.at][0] == sort

    def step(self, fits):
        """Return the lexeme ahead and go behind it, if it fits there."""
        if not fits:
            raise BadText(self.here())
        self.at += 1
        return self.found[self.at - 1][1]

    def take(self, lexeme):
        """Go behind a told lexeme."""
        self.step(self.sees(lexeme))

    def take_word(self):
        """Return the word ahead and go behind it."""
        return self.step(self.sees_sort("word"))

    def take_numeral(self):
        """Return the number that the numeral ahead tells, and go behind it."""
        # Only a numeral that fits is made a number: one that does not may be of any length.
        return int(self.step(self.sees_sort("numeral")))

    def finish(self):
        """Require that the text is at its end."""
        if self.at < len(self.found) or not self.whole:
            raise BadText(self.here())
