"""Names, and the words of a line."""

from plinth.errors import BadName
from plinth.signs import is_small


def is_name(word):
    """Tells whether a word is 1 to 12 small letters."""
    return 1 <= len(word) <= 12 and all([is_small(ord(letter)) for letter in word])


def check_name(word):
    """Raises BadName if a word is not 1 to 12 small letters."""
    if not is_name(word):
        raise BadName("the name is not 1 to 12 small letters")
