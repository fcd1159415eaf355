"""Texts: their lines and words, and the kinds of words."""

from slideinto.errors import BadText

LETTERS = "abcdefghijklmnopqrstuvwxyz"
DIGITS = "0123456789"


def checked_text(value):
    """A value as a plain string; BadText if it is none."""
    if not isinstance(value, str):
        raise BadText(0, 0)
    return str(value)


def lines_of(text):
    """The list of the lines of a text, without line feeds."""
    lines = text.split("\n")
    if lines[-1] == "":
        lines.pop()
    return lines


def words_of(line):
    """The list of the words of a line; two spaces side by side make an empty one between them."""
    return line.split(" ")


def is_name(value):
    """Whether a value is a NAME."""
    if not isinstance(value, str) or not 1 <= len(value) <= 12:
        return False
    return value[0] in LETTERS and all(sign in LETTERS or sign in DIGITS for sign in value)


def is_number_word(word):
    """Whether a word is an N: one to six digits."""
    return 1 <= len(word) <= 6 and all(sign in DIGITS for sign in word)


def is_signed_word(word):
    """Whether a word is a Z: an N, perhaps with a minus in front."""
    return is_number_word(word[1:] if word.startswith("-") else word)


def fits(word, kind):
    """Whether a word is of a kind: NAME, N and Z are those of the document, any other one is the word itself."""
    if kind == "NAME":
        return is_name(word)
    if kind == "N":
        return is_number_word(word)
    if kind == "Z":
        return is_signed_word(word)
    return word == kind


def wrong_word(words, kinds):
    """The number of the first word that is wrong, missing or too much, by the kinds of all; None if there is none."""
    for index, kind in enumerate(kinds):
        if index == len(words) or not fits(words[index], kind):
            return index + 1
    return len(kinds) + 1 if len(words) > len(kinds) else None


def check_words(words, kinds, line):
    """BadText for the first word of a line that is not of its kind, missing or too much."""
    wrong = wrong_word(words, kinds)
    if wrong is not None:
        raise BadText(line, wrong)
