"""Images that differ in nothing but their numbers."""

from plinth.nodes import image_of, nodes_of
from plinth.operations import BRANCH, CALL, CELL
from plinth.threads import is_fixed


def _pairs(one, other):
    """Returns the pairs of integers that a renaming takes to each other for
    two nodes, or None if the nodes do not fit."""
    if one[1] != other[1] or one[1] in (CELL, CALL):
        return None
    pairs = [(one[0], other[0]), (one[3], other[3])]
    if one[1] == BRANCH:
        pairs.append((one[2], other[2]))
    elif one[2] != other[2]:
        return None
    return pairs


def _fits(names, olds, pair):
    """Tells whether a pair can join a renaming and its reverse."""
    old, new = pair
    if is_fixed(old) or is_fixed(new):
        return old == new
    return names.get(old, new) == new and olds.get(new, old) == old


def renaming(one, other):
    """Returns the renaming that makes two images alike, or None."""
    if len(one) != len(other) or len(one) % 4 != 0:
        return None
    names = {}
    olds = {}
    for node, twin in zip(nodes_of(one), nodes_of(other)):
        pairs = _pairs(node, twin)
        if pairs is None:
            return None
        for pair in pairs:
            if not _fits(names, olds, pair):
                return None
            old, new = pair
            names[old] = new
            olds[new] = old
    return names


def _moved(number, first, by):
    return first + (number - 200) * by if number >= 200 else number


def with_numbers(image, *, first=200, by=1):
    """Returns an image with other numbers in the place of those from 200 on."""
    nodes = []
    for number, operation, argument, successor in nodes_of(image):
        if operation == BRANCH:
            argument = _moved(argument, first, by)
        nodes.append((_moved(number, first, by), operation, argument, _moved(successor, first, by)))
    return image_of(nodes) + image[4 * len(nodes):]
