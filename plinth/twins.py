"""Double compilation: is a binary what a text of a compiler means?"""

from plinth.audit import first_difference
from plinth.generations import child_of
from plinth.machine import check_fuel
from plinth.signs import codes_of


def double(suspect, second, text, *, fuel=100000):
    """Returns the answer of a double compilation."""
    codes = codes_of(text)
    early = child_of(second, codes, fuel)
    if early is None:
        return ("stuck", 1)
    late = child_of(early, codes, fuel)
    if late is None:
        return ("stuck", 2)
    place = first_difference(late, suspect)
    return ("same",) if place is None else ("apart", place)


def _second_child(binary, codes, fuel):
    early = child_of(binary, codes, fuel)
    return None if early is None else child_of(early, codes, fuel)


def _codes_of_all(texts, fuel):
    """Returns the codes of some texts, and checks them before the fuel."""
    rows = [codes_of(text) for text in texts]
    check_fuel(fuel)
    return rows


def cross(binaries, texts, *, fuel=100000):
    """Returns a table of the children of binaries for texts."""
    rows = _codes_of_all(texts, fuel)
    return [[child_of(binary, codes, fuel) for codes in rows] for binary in binaries]


def second_cross(binaries, texts, *, fuel=100000):
    """Returns a table of the children of those children for the same texts."""
    rows = _codes_of_all(texts, fuel)
    return [[_second_child(binary, codes, fuel) for codes in rows] for binary in binaries]
