"""Trees: programs as lists of items."""

from plinth.signs import is_capital, is_small

MOST_DEEP = 30
# The codes of `+ - * < ~ @ ! , . ^ $ _ " \`.
_SIGNS = (43, 45, 42, 60, 126, 64, 33, 44, 46, 94, 36, 95, 34, 92)


def is_op(code):
    """Tells whether a code may be that of an item ("op", code)."""
    return code in _SIGNS or is_small(code) or is_capital(code)


def is_num(number):
    """Tells whether a number may be that of an item ("num", number)."""
    return 0 <= number < 10 ** 18


def inner_lists(item):
    """Returns the lists of items that an item has, in order."""
    kind = item[0]
    if kind in ("when", "loop"):
        return [item[1]]
    if kind == "choose":
        return [item[1], item[2]]
    if kind == "def":
        return [item[2]]
    return []


def depth_of(tree):
    """Returns the depth of the deepest list of a tree."""
    depths = [depth_of(inner) for item in tree for inner in inner_lists(item)]
    return 1 + max(depths, default=0)


def size_of(tree):
    """Returns how many items a tree has, with those of inner lists."""
    return len(tree) + sum([size_of(inner) for item in tree for inner in inner_lists(item)])


def defined_in(tree):
    """Returns the codes of the names that a tree defines, in ascending order."""
    return sorted(set([item[1] for item in tree if item[0] == "def"]))
