"""The desk: it answers lines of text."""

from plinth.commands import perform
from plinth.errors import PlinthError
from plinth.holdings import Holdings
from plinth.words import integer_of, is_name, words_of

_MOST_FUEL = 100000

# The words behind each command: N is a name, I, E and C are the names of an
# item, an entry and a claim that exist, X is a numeral, F a fuel, and W any
# word.
_SHAPES = {
    "numbers": "N",
    "text": "NW",
    "show": "I",
    "digits": "NI",
    "short": "NI",
    "plain": "NI",
    "turned": "NI",
    "trim": "NI",
    "run": "NIIF",
    "rule": "NN",
    "build": "F",
    "needs": "N",
    "put": "NWII",
    "make": "NWIEF",
    "swap": "EE",
    "copy": "EE",
    "damage": "EXX",
    "trap": "EII",
    "take": "NE",
    "audit": "",
    "claim": "NIIF",
    "spoil": "CXX",
    "dispute": "CC",
}
# What may follow these words, as often as one likes.
_MORE = {"numbers": "X", "rule": "N"}


def _shape(command, many):
    """Returns the shape of the words behind a command, if they may be so many."""
    shape = _SHAPES[command]
    if command in _MORE:
        shape = shape + _MORE[command] * (many - len(shape))
    return shape if len(shape) == many else None


def _value(letter, word):
    """Returns what a word stands for, or None if it may not stand there."""
    if letter == "X":
        return integer_of(word)
    if letter == "F":
        return integer_of(word, least=0, most=_MOST_FUEL)
    return word if letter == "W" or is_name(word) else None


def _is_unknown(holdings, letter, value):
    """Tells whether a value must be a name of something that exists, and is not."""
    if letter == "I":
        return not holdings.has_item(value)
    if letter == "E":
        return not holdings.has_entry(value)
    return letter == "C" and not holdings.has_claim(value)


class Desk:
    """Items, rules, a shelf and claims, changed and asked by lines of text."""

    def __init__(self):
        self._holdings = Holdings()

    def answer(self, line):
        """Answers a line, and changes the desk as the line says."""
        words = words_of(line)
        if words is None or words[0] not in _SHAPES:
            return "bad"
        shape = _shape(words[0], len(words) - 1)
        if shape is None:
            return "bad"
        values = [_value(letter, word) for letter, word in zip(shape, words[1:])]
        if any([value is None for value in values]):
            return "bad"
        return self._answer_to(words[0], shape, values)

    def answers(self, lines):
        """Returns the answers to several lines."""
        return [self.answer(line) for line in lines]

    def content(self, name):
        """Returns a copy of the content of an item, or None if there is none."""
        return list(self._holdings.contents[name]) if self._holdings.has_item(name) else None

    def names(self):
        """Returns the names of all items, sorted."""
        return sorted(self._holdings.contents)

    def copied(self):
        """Returns a desk that has the same and changes on its own."""
        other = Desk()
        other._holdings = self._holdings.copied()
        return other

    def _answer_to(self, command, shape, values):
        for letter, value in zip(shape, values):
            if _is_unknown(self._holdings, letter, value):
                return f"unknown {value}"
        try:
            return perform(command, self._holdings, values)
        except PlinthError:
            return "refused"
