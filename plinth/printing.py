"""Trees written as texts."""

from plinth.signs import text_of


def _written(item):
    kind = item[0]
    if kind == "num":
        return str(item[1])
    if kind == "op":
        return text_of([item[1]])
    if kind == "put":
        return "=" + text_of([item[1]])
    if kind == "when":
        return "[" + write(item[1]) + "]"
    if kind == "choose":
        return "[" + write(item[1]) + "|" + write(item[2]) + "]"
    if kind == "loop":
        return "{" + write(item[1]) + "}"
    return ":" + text_of([item[1]]) + write(item[2]) + ";"


def write(tree):
    """Returns the text of a tree."""
    parts = []
    before = None
    for item in tree:
        if before == "num" and item[0] == "num":
            parts.append(" ")
        parts.append(_written(item))
        before = item[0]
    return "".join(parts)
