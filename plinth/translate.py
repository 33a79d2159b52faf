"""Twig: programs translated into images."""

from plinth.operations import BRANCH, NOP, PUSH, RETURN, SET
from plinth.signs import COLON, QUOTE, SPACE, is_digit, with_digit


# Each function below is what one sign does to a translator.


def _begin_choice(translator):
    number = translator.taken_number()
    translator.pile.append(number)
    translator.emit(BRANCH, number)


def _turn_choice(translator):
    number = translator.taken_number()
    translator.append_node(NOP, 0, number)
    translator.m = translator.popped()
    translator.pile.append(number)


def _end_choice(translator):
    number = translator.popped()
    translator.append_node(NOP, 0, number)
    translator.m = number


def _begin_loop(translator):
    number = translator.taken_number()
    translator.append_node(NOP, 0, number)
    translator.m = number
    translator.pile.append(number)


def _end_loop(translator):
    start = translator.popped()
    number = translator.taken_number()
    translator.append_node(BRANCH, number, start)
    translator.m = number


def _end_definition(translator):
    # A return with an empty `back` goes on at 1, the successor.
    translator.append_node(RETURN, 0, 1)
    translator.m = translator.popped()


# The keys are the codes of `[`, `|`, `]`, `{`, `}` and `;`.
_BRACKETS = {
    91: _begin_choice,
    124: _turn_choice,
    93: _end_choice,
    123: _begin_loop,
    125: _end_loop,
    59: _end_definition,
}


class Translator:
    """Translates a program, one code at a time."""

    def __init__(self, *, first=200, by=1):
        self.image = [0, NOP, 0, first]
        self.m = first
        self.k = first + by
        self.pile = []
        self.numeral = None
        self.waiting = None
        self._by = by
        self._stopped = False
        self._finished = False

    def popped(self):
        """Pops an integer off the pile; an empty pile gives 0."""
        return self.pile.pop() if self.pile else 0

    def taken_number(self):
        """Takes the next free number."""
        number = self.k
        self.k = number + self._by
        return number

    def append_node(self, operation, argument, successor):
        """Appends a node with the current number to the image."""
        self.image.extend([self.m, operation, argument, successor])

    def emit(self, operation, argument):
        """Appends a node whose successor is the next free number, and goes there."""
        successor = self.taken_number()
        self.append_node(operation, argument, successor)
        self.m = successor

    def take(self, code):
        """Handles one code, unless the program has ended."""
        if self._stopped:
            return
        if code < 0:
            self._stopped = True
        elif self.waiting is not None:
            self._take_skipped(code)
        elif is_digit(code):
            self.numeral = with_digit(self.numeral or 0, code)
        else:
            self._end_numeral()
            self._take_sign(code)

    def finish(self):
        """Handles the end of the program and returns a copy of the image."""
        if not self._finished:
            self._end_numeral()
            self.emit(RETURN, 0)
            self.waiting = None
            self._stopped = True
            self._finished = True
        return list(self.image)

    def _end_numeral(self):
        if self.numeral is not None:
            self.emit(PUSH, self.numeral)
            self.numeral = None

    def _take_skipped(self, code):
        sign = self.waiting
        self.waiting = None
        if sign == COLON:
            self.pile.append(self.m)
            self.m = code
        elif sign == QUOTE:
            self.emit(PUSH, code)
        else:
            self.emit(SET, code)

    def _take_sign(self, code):
        if code in (QUOTE, SET, COLON):
            self.waiting = code
        elif code in _BRACKETS:
            action = _BRACKETS[code]
            action(self)
        elif code > SPACE:
            self.emit(code, 0)


def translate(codes, *, first=200, by=1):
    """Returns the image of a program."""
    translator = Translator(first=first, by=by)
    for code in codes:
        translator.take(code)
    return translator.finish()
