"""The words of a line, and what they may be: names and numerals."""

from plinth.errors import BadName, NotNumeral
from plinth.signs import is_character, is_small, number_of


def is_line(line):
    """Tells whether a string has only characters of texts, and no newline."""
    return all([is_character(ord(sign)) and sign != "\n" for sign in line])


def words_of(line):
    """Returns the words of a line, or None if it is malformed."""
    if not is_line(line):
        return None
    words = line.split(" ")
    if words[0] == "text" and len(words) > 1 and words[1] != "":
        return words[:2] + [" ".join(words[2:])]
    if words[0] == "text" or "" in words:
        return None
    return words


def is_name(word):
    """Tells whether a word is 1 to 12 small letters."""
    return 1 <= len(word) <= 12 and all([is_small(ord(letter)) for letter in word])


def check_name(word):
    """Raises BadName if a word is not 1 to 12 small letters."""
    if not is_name(word):
        raise BadName("the name is not 1 to 12 small letters")


def integer_of(word, *, least=None, most=None):
    """Returns the integer of a numeral, or None if it is none or out of range."""
    try:
        number = number_of(word)
    except NotNumeral:
        return None
    if least is not None and number < least or most is not None and number > most:
        return None
    return number
