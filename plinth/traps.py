"""Traps: changes of a binary that insert themselves again into what it writes."""

from plinth.errors import BadTrap, NotPlantable, NotPlanted
from plinth.nodes import image_of, nodes_of
from plinth.operations import (
    ADD, BRANCH, CALL, CELL, DOUBLE, DROP, EQUAL, NOP, PUSH, RETURN, REWIND, TAKE, WRITE,
)

# The nodes of a trap have numbers from here on, except for the first one.
_BASE = 1000000
# How many nodes stand before those of the lure, and how many behind those of
# the extra integers.
_BEFORE = 4
_BEHIND = 10


def _are_allowed(lure, extra):
    if not 1 <= len(lure) <= 12 or not all([0 <= code <= 126 for code in lure]):
        return False
    return len(extra) <= 24 and len(extra) % 4 == 0


def _is_plantable(image):
    if len(image) % 4 != 0 or image[:3] != [0, NOP, 0]:
        return False
    nodes = nodes_of(image)
    if any([node[0] == 0 for node in nodes[1:]]):
        return False
    return all([node[0] < _BASE and node[1] != CELL for node in nodes])


def _beginning():
    """Returns the nodes that call the program and read the input again."""
    return [
        (0, PUSH, 3, _BASE), (_BASE, CELL, 0, _BASE + 1), (_BASE + 1, CALL, 0, _BASE + 2),
        (_BASE + 2, REWIND, 0, _BASE + 3),
    ]


def _comparison(number, code, end):
    """Returns the nodes that go to the end if the next integer is another one."""
    return [
        (number, TAKE, 0, number + 1), (number + 1, PUSH, code, number + 2),
        (number + 2, EQUAL, 0, number + 3), (number + 3, BRANCH, end, number + 4),
    ]


def _writer(number, extra):
    """Returns the nodes that write an integer."""
    return [(number, PUSH, extra, number + 1), (number + 1, WRITE, 0, number + 2)]


def _copier(number, size, end):
    """Returns the nodes that write the last cells of the image and return."""
    return [
        (number, PUSH, -size, number + 1), (number + 1, DOUBLE, 0, number + 2),
        (number + 2, CELL, 0, number + 3), (number + 3, WRITE, 0, number + 4),
        (number + 4, PUSH, 1, number + 5), (number + 5, ADD, 0, number + 6),
        (number + 6, DOUBLE, 0, number + 7), (number + 7, BRANCH, number + 8, number + 1),
        (number + 8, DROP, 0, end), (end, RETURN, 0, end + 1),
    ]


def _trap(lure, extra):
    """Returns the cells of a trap."""
    size = _BEFORE + 4 * len(lure) + 2 * len(extra) + _BEHIND
    # All nodes but the first one have the numbers from the base on.
    end = _BASE + size - 2
    nodes = _beginning()
    for code in lure:
        nodes.extend(_comparison(_BASE + len(nodes) - 1, code, end))
    for number in extra:
        nodes.extend(_writer(_BASE + len(nodes) - 1, number))
    nodes.extend(_copier(_BASE + len(nodes) - 1, 4 * size, end))
    return image_of(nodes)


def plant(image, lure, extra):
    """Returns the image with a trap behind its cells."""
    if not _are_allowed(lure, extra):
        raise BadTrap("the lure or the extra integers are not allowed")
    if not _is_plantable(image):
        raise NotPlantable("no trap can be planted in the image")
    return image + _trap(lure, extra)


def _parts(nodes):
    """Returns the lure and the extra integers, if the nodes are those of a trap."""
    at = _BEFORE
    lure = []
    while at + 1 < len(nodes) and nodes[at][1] == TAKE:
        lure.append(nodes[at + 1][2])
        at += 4
    extra = []
    while at + 1 < len(nodes) and nodes[at + 1][1] == WRITE:
        extra.append(nodes[at][2])
        at += 2
    return (lure, extra)


def _found(image):
    """Returns the image before a trap, the lure and the extra integers, or None."""
    nodes = nodes_of(image)
    # A trap begins with the last node that has the number 0.
    starts = [at for at, node in enumerate(nodes) if node[0] == 0]
    if not starts:
        return None
    before = image[:4 * starts[-1]]
    lure, extra = _parts(nodes[starts[-1]:])
    if not _are_allowed(lure, extra) or not _is_plantable(before) or before + _trap(lure, extra) != image:
        return None
    return (before, lure, extra)


def planted(image):
    """Returns the lure and the extra integers of the trap of an image, or None."""
    found = _found(image)
    return None if found is None else (found[1], found[2])


def cleaned(image):
    """Returns the image without its trap."""
    found = _found(image)
    if found is None:
        raise NotPlanted("the image has no trap")
    return found[0]
