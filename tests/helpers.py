"""What several test files need."""

from plinth.machine import State
from plinth.printing import write
from plinth.translate import translate

HUGE = 10 ** 5000
CHARACTERS = "\n" + "".join(chr(code) for code in range(32, 127) if code != 37)
SIGNS = "+-*<~@!,.^$_\"\\"
SMALL = "abcdefghijklmnopqrstuvwxyz"
CAPITAL = SMALL.upper()
# Choices of `first` and `by` for translations.
NUMBERS = [(200, 1), (201, 1), (200, 7), (5000, 300), (-1, -1), (-1, -5), (-70, -1), (10 ** 5000, 10 ** 5000)]


def cells(*nodes):
    """The image that consists of the nodes, which are tuples."""
    return [cell for node in nodes for cell in node]


def codes(text):
    """The codes of a text, found without the program."""
    return [ord(character) for character in text]


def one_node(sign, argument=5, successor=1):
    """An image with the one node 0; the sign may be a character or a code."""
    return [0, sign if isinstance(sign, int) else ord(sign), argument, successor]


def step(image, numbers=(), stack=(), store=(), back=(), place=0, at=0):
    """The state after one step that begins with these parts."""
    state = State(image, list(numbers))
    state.at = at
    state.stack = list(stack)
    state.store = dict(store)
    state.back = list(back)
    state.place = place
    assert state.step() is True
    return state


def nested(depth, kind="when"):
    """A tree of this depth."""
    tree = []
    for level in range(depth - 1):
        if kind == "choose":
            tree = [("choose", tree, [])] if level & 1 else [("choose", [], tree)]
        else:
            tree = [(kind, tree)]
    return tree


def some_tree(source, depth=1, small=SMALL, capital=CAPITAL):
    """A tree of all kinds of items, at most 6 deep, with these letters."""
    tree = []
    for _ in range(source.randrange(5)):
        kind = source.choice(["num", "num", "op", "put", "when", "choose", "loop", "def"])
        if kind == "num":
            tree.append(("num", source.choice([0, 7, 10, 10 ** 18 - 1, source.randrange(200)])))
        elif kind == "op":
            tree.append(("op", ord(source.choice(SIGNS + small + capital))))
        elif kind == "put":
            tree.append(("put", ord(source.choice(small))))
        elif kind == "def" and depth == 1:
            tree.append(("def", ord(source.choice(capital)), some_tree(source, 2, small, capital)))
        elif kind == "choose" and depth < 6:
            lists = [some_tree(source, depth + 1, small, capital) for _ in range(2)]
            tree.append(("choose", lists[0], lists[1]))
        elif kind in ("when", "loop") and depth < 6:
            tree.append((kind, some_tree(source, depth + 1, small, capital)))
    return tree


def translated(tree, **numbers):
    """The translation of the text of a tree."""
    return translate(codes(write(tree)), **numbers)


def counter(steps):
    """An image whose runs take exactly so many steps, at least 8."""
    rounds, rest = divmod(steps - 1, 4)
    nops = [(5 + at, 32, 0, 6 + at) for at in range(rest)]
    return cells((0, 35, rounds, 1), (1, 35, 1, 2), (2, 45, 0, 3), (3, 34, 0, 4), (4, 63, 5, 1), *nops)


def outcome(image, numbers, fuel):
    """Whether a run has ended, its outcome ([81]), and its steps."""
    state = State(image, numbers)
    steps = state.advance(fuel=fuel)
    _, stack, store, _, _, output = state.plain()
    return state.has_ended(), (output, stack, store), steps


def some_image(source, size, signs="#####+-*<~@!=ab,^._\"\\?????AFB$)    "):
    """An image of nodes with few numbers, some cells left over; it may be open."""
    pool = [0, 1, 2, 65, 66, 70, 199, 200, 201, 202, 203, 250, 300, -1, -2]
    numbers = [0] + source.sample(pool, source.randrange(1, len(pool)))
    image = []
    for _ in range(size):
        sign = source.choice(signs)
        arguments = numbers if sign == "?" else [0, 1, 2, 65, 97]
        image += [source.choice(numbers), ord(sign), source.choice(arguments), source.choice(numbers)]
    return image + [source.randrange(9) for _ in range(source.choice([0, 0, 1, 2, 3]))]


def some_list(source):
    """A list of codes, often of signs with a meaning; integers that are no codes, too."""
    pool = [39, 61, 58, 91, 124, 93, 123, 125, 59, 62, 32, 10, 48, 49, 57, 97, 43, 65, 0, 5, 33, 47, 127, 10 ** 30]
    found = [source.choice(pool + [source.randrange(300)]) for _ in range(source.randrange(14))]
    if source.random() < 0.2:
        found = found[:1] * source.randrange(1, 20)
    if source.random() < 0.3:
        found += [-source.randrange(1, 9)] + [source.randrange(-3, 130) for _ in range(5)]
    return found
