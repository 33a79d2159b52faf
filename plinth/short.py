"""Short: the language of images."""

from plinth.operations import NOP, PUSH
from plinth.signs import COLON, QUOTE, SPACE, is_digit, with_digit

_GREATER = 62


class ShortReader:
    """Translates a text in short that arrives in pieces."""

    def __init__(self):
        self.m = 0
        self.r = 0
        self.waiting = False
        self.finished = False
        self._cells = []

    def feed(self, codes):
        """Reads a piece of the text."""
        for code in codes:
            if not self.finished:
                self._take(code)

    def image(self):
        """Returns the image of all that was read, as a new list."""
        return list(self._cells)

    def _take(self, code):
        if code < 0:
            self.finished = True
            self.waiting = False
        elif self.waiting:
            self.waiting = False
            self._emit(PUSH, code, self.m + 1)
        elif is_digit(code):
            self.r = with_digit(self.r, code)
        elif code > SPACE:
            self._take_sign(code)

    def _take_sign(self, code):
        if code == QUOTE:
            self.waiting = True
        elif code == COLON:
            self.m = self.r
            self.r = 0
        elif code == _GREATER:
            self._emit(NOP, 0, self.r)
        else:
            self._emit(code, self.r, self.m + 1)

    def _emit(self, operation, argument, successor):
        self._cells.extend([self.m, operation, argument, successor])
        self.m += 1
        self.r = 0


def translate_short(codes):
    """Returns the image of a text in short."""
    reader = ShortReader()
    reader.feed(codes)
    return reader.image()
