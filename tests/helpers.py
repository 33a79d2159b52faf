"""What several test files need."""

from plinth.machine import State

HUGE = 10 ** 5000
CHARACTERS = "\n" + "".join(chr(code) for code in range(32, 127) if code != 37)


def cells(*nodes):
    """The image that consists of the nodes, which are tuples."""
    return [cell for node in nodes for cell in node]


def codes(text):
    """The codes of a text, found without the program."""
    return [ord(character) for character in text]


def one_node(sign, argument=5, successor=1):
    """An image with the one node 0; the sign may be a character or a code."""
    return [0, sign if isinstance(sign, int) else ord(sign), argument, successor]


def step(image, numbers=(), stack=(), store=(), back=(), place=0, at=0):
    """The state after one step that begins with these parts."""
    state = State(image, list(numbers))
    state.at = at
    state.stack = list(stack)
    state.store = dict(store)
    state.back = list(back)
    state.place = place
    assert state.step() is True
    return state
