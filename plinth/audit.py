"""The audit: which binaries of a shelf are not what their texts mean?"""

from plinth.kinds import check_kind, meant
from plinth.machine import check_fuel
from plinth.signs import codes_of


def due(kind, text):
    """Returns the binary that the definition of a kind makes of a text."""
    check_kind(kind)
    return meant(kind, codes_of(text))


def first_difference(one, other):
    """Returns the first index at which two lists differ, or None."""
    for at in range(min(len(one), len(other))):
        if one[at] != other[at]:
            return at
    return None if len(one) == len(other) else min(len(one), len(other))


def _differing(shelf, expected):
    """Returns the entries that differ from a list of expected binaries, one for
    each name, and the places at which they do."""
    names = shelf.names()
    places = [first_difference(shelf.binary(name), binary) for name, binary in zip(names, expected)]
    return [(name, place) for name, place in zip(names, places) if place is not None]


def audit(shelf):
    """Compares each binary with what the definition makes of its text."""
    return _differing(shelf, [due(shelf.kind(name), shelf.text(name)) for name in shelf.names()])


def _served(tower, kind, text, fuel):
    """Returns what a tower's binary writes for a text, also if it has not ended."""
    _, output, _ = tower.serve(kind, codes_of(text), fuel=fuel)
    return output


def rebuild(shelf, tower, *, fuel=100000):
    """Compares each binary with what a tower's binaries make of its text."""
    check_fuel(fuel)
    return _differing(shelf, [_served(tower, shelf.kind(name), shelf.text(name), fuel) for name in shelf.names()])
