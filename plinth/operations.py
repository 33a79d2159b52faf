"""Codes of the machine's operations, and what single operations compute."""

NOP = 32
PUT = 33
DOUBLE = 34
PUSH = 35
CALL_IF_DEFINED = 36
CELL = 38
CALL = 40
RETURN = 41
ADD = 43
TAKE = 44
WRITE = 46
LESS = 60
SET = 61
BRANCH = 63
GET = 64
REWIND = 94
DROP = 95
EQUAL = 126

# The codes of `+ - * < ~`.
COMBINING = (43, 45, 42, 60, 126)


def combined(operation, x, y):
    """Returns what one of `+ - * < ~` pushes for the popped x and y."""
    if operation == 43:
        return x + y
    if operation == 45:
        return x - y
    if operation == 42:
        return 10 * x + y
    if operation == 60:
        return int(x < y)
    return int(x == y)


def can_call(nodes, number):
    """Tells whether `$` calls a popped number in an image with these nodes."""
    return 1 <= number <= 199 and nodes.node(number) is not None
