"""Characters, their codes, and numerals."""

from plinth.errors import NotNumeral, NotText

NEWLINE = 10
SPACE = 32
QUOTE = 39
COLON = 58

# Two strings, because the percent sign between them is no character here.
_FROM_SPACE = " !\"#$"
_FROM_AMPERSAND = (
    "&'()*+,-./0123456789:;<=>?@ABCDEFGHIJKLMNOPQRSTUVWXYZ"
    "[\\]^_`abcdefghijklmnopqrstuvwxyz{|}~"
)


def is_character(code):
    """Tells whether an integer is the code of a character."""
    return code == NEWLINE or 32 <= code <= 36 or 38 <= code <= 126


def is_digit(code):
    """Tells whether an integer is the code of a digit."""
    return 48 <= code <= 57


def with_digit(number, code):
    """Returns the number that the code of a digit makes of the digits before it."""
    return 10 * number + code - 48


def is_capital(code):
    """Tells whether an integer is the code of a capital letter."""
    return 65 <= code <= 90


def is_small(code):
    """Tells whether an integer is the code of a small letter."""
    return 97 <= code <= 122


def codes_of(text):
    """Returns the codes of the characters of a text."""
    codes = [ord(character) for character in text]
    for code in codes:
        if not is_character(code):
            raise NotText("the string has what is no character")
    return codes


def _character(code):
    if not is_character(code):
        raise NotText("an integer is not the code of a character")
    if code == NEWLINE:
        return "\n"
    if code <= 36:
        return _FROM_SPACE[code - 32]
    return _FROM_AMPERSAND[code - 38]


def text_of(codes):
    """Returns the text whose characters have the codes."""
    return "".join([_character(code) for code in codes])


def readable(codes):
    """Returns the part of a list before its first negative integer."""
    part = []
    for code in codes:
        if code < 0:
            break
        part.append(code)
    return part


def has_numeral(number):
    """Tells whether an integer has at most 60 digits."""
    return abs(number) < 10 ** 60


def numeral(number):
    """Returns the decimal form of an integer of at most 60 digits."""
    if not has_numeral(number):
        raise NotNumeral("the integer has more than 60 digits")
    return str(number)


def _is_numeral(text):
    digits = text[1:] if text.startswith("-") else text
    if not all([digit in "0123456789" for digit in digits]):
        return False
    if digits.startswith("0"):
        return text == "0"
    return 1 <= len(digits) <= 60


def number_of(text):
    """Returns the integer whose numeral a text is."""
    if not _is_numeral(text):
        raise NotNumeral("the text is not a numeral")
    return int(text)
