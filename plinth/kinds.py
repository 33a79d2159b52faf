"""The kinds of texts, and what their definitions make of texts."""

from plinth.digits import read_digits
from plinth.errors import BadKind
from plinth.short import translate_short
from plinth.translate import translate

_KINDS = ("digits", "short", "plain", "turned")


def check_kind(kind):
    """Raises BadKind if there is no such kind."""
    if kind not in _KINDS:
        raise BadKind("there is no such kind")


def meant(kind, codes):
    """Returns what the definition of a kind makes of codes, a list."""
    if kind == "digits":
        return read_digits(codes)
    if kind == "short":
        return translate_short(codes)
    if kind == "plain":
        return translate(codes)
    return translate(codes, first=-1, by=-1)
