"""Listings: texts in short that have one line for each node."""

from plinth.errors import NotListable
from plinth.nodes import nodes_of
from plinth.operations import NOP
from plinth.signs import has_numeral, is_digit, numeral, text_of

# The percent sign is no character; the other three have a meaning of their
# own in short.
_NOT_IN_LISTINGS = (37, 39, 58, 62)


def _is_listed_number(number):
    return number >= 0 and has_numeral(number)


def _is_listed_sign(operation):
    return 33 <= operation <= 126 and operation not in _NOT_IN_LISTINGS and not is_digit(operation)


def _fits(node):
    number, operation, argument, successor = node
    if not all([_is_listed_number(part) for part in (number, argument, successor)]):
        return False
    if operation == NOP:
        return argument == 0
    return _is_listed_sign(operation) and successor == number + 1


def _misfit(image):
    """Returns the index at which an image cannot be listed, or None."""
    nodes = nodes_of(image)
    for at, node in enumerate(nodes):
        if not _fits(node):
            return at
    if len(image) != 4 * len(nodes):
        return len(nodes)
    return None


def can_list(image):
    """Tells whether an image can be listed."""
    return _misfit(image) is None


def _line(node, expected):
    number, operation, argument, successor = node
    place = "" if number == expected else numeral(number) + ":"
    if operation == NOP:
        return place + numeral(successor) + ">\n"
    shown = "" if argument == 0 else numeral(argument)
    return place + shown + text_of([operation]) + "\n"


def listing(image):
    """Returns the listing of an image."""
    at = _misfit(image)
    if at is not None:
        raise NotListable(at)
    lines = []
    expected = 0
    for node in nodes_of(image):
        lines.append(_line(node, expected))
        expected = node[0] + 1
    return "".join(lines)
