"""Digits: the language of numbers."""

from plinth.errors import NotWritable
from plinth.signs import codes_of, has_numeral, is_digit, numeral, readable, with_digit


def read_digits(codes):
    """Returns the integers that a text in digits means."""
    numbers = []
    value = None
    for code in readable(codes):
        if is_digit(code):
            value = with_digit(value or 0, code)
        elif value is not None:
            numbers.append(value)
            value = None
    if value is not None:
        numbers.append(value)
    return numbers


def write_digits(numbers):
    """Returns the codes that write a list of integers in digits."""
    for at, number in enumerate(numbers):
        if number < 0 or not has_numeral(number):
            raise NotWritable(at)
    return codes_of(" ".join([numeral(number) for number in numbers]))
