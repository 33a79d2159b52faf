"""Texts read as trees."""

from plinth.errors import Malformed
from plinth.signs import is_capital, is_character, is_small, with_digit
from plinth.trees import MOST_DEEP, is_num, is_op

_DIGITS = "0123456789"
_BLANKS = " \n"
# What closes a list, by the sign with which it began.
_CLOSING = {"[": "]", "|": "]", "{": "}", ":": ";"}


class Part:
    """A list of items that is being read, and the sign with which it began."""

    def __init__(self, sign, name=None, before=None):
        self.sign = sign
        self.name = name
        self.before = before
        self.inside = []

    def item(self):
        """Returns the item that the list ends."""
        if self.sign == "[":
            return ("when", self.inside)
        if self.sign == "|":
            return ("choose", self.before, self.inside)
        if self.sign == "{":
            return ("loop", self.inside)
        return ("def", self.name, self.inside)


class Reader:
    """Reads a text sign by sign; `at` is the index of the next one."""

    def __init__(self, text):
        self.text = text
        self.at = 0
        # The lists that are open, from the outermost list to the innermost.
        self.parts = [Part("")]

    def tree(self):
        """Reads the whole text."""
        while self.at < len(self.text):
            self._take(self.text[self.at])
        if len(self.parts) > 1:
            raise Malformed(self.at)
        return self.parts[0].inside

    def _take(self, sign):
        if sign in _DIGITS:
            self._take_numeral()
        elif is_op(ord(sign)):
            self._add(("op", ord(sign)))
            self.at += 1
        elif sign in "'=":
            self._take_pair(sign)
        elif sign in "[{:":
            self._begin(sign)
        elif sign == "|":
            self._turn()
        elif sign in "]};":
            self._end(sign)
        elif sign in _BLANKS:
            self.at += 1
        else:
            raise Malformed(self.at)

    def _add(self, item):
        self.parts[-1].inside.append(item)

    def _take_numeral(self):
        number = 0
        while self.at < len(self.text) and self.text[self.at] in _DIGITS:
            number = with_digit(number, ord(self.text[self.at]))
            self._check(is_num(number))
            self.at += 1
        self._add(("num", number))

    def _next_code(self):
        """Goes to the next sign and returns its code, None behind the end."""
        self.at += 1
        return ord(self.text[self.at]) if self.at < len(self.text) else None

    def _take_pair(self, sign):
        code = self._next_code()
        if sign == "'":
            self._check(code is not None and is_character(code))
            self._add(("num", code))
        else:
            self._check(code is not None and is_small(code))
            self._add(("put", code))
        self.at += 1

    def _begin(self, sign):
        depth = len(self.parts)
        self._check(depth == 1 if sign == ":" else depth < MOST_DEEP)
        name = None
        if sign == ":":
            name = self._next_code()
            self._check(name is not None and is_capital(name))
        self.parts.append(Part(sign, name=name))
        self.at += 1

    def _turn(self):
        part = self.parts[-1]
        self._check(part.sign == "[")
        self.parts[-1] = Part("|", before=part.inside)
        self.at += 1

    def _end(self, sign):
        part = self.parts[-1]
        self._check(_CLOSING.get(part.sign) == sign)
        self.parts.pop()
        self._add(part.item())
        self.at += 1

    def _check(self, can_follow):
        if not can_follow:
            raise Malformed(self.at)


def read(text):
    """Returns the tree of a text."""
    return Reader(text).tree()
