"""Images and texts that write themselves."""

from plinth.errors import BadPayload, NotBalanced
from plinth.machine import check_fuel, run
from plinth.nodes import image_of
from plinth.operations import ADD, BRANCH, CELL, DOUBLE, EQUAL, LESS, PUSH, WRITE
from plinth.signs import codes_of
from plinth.translate import Translator

# The codes of `|`, `]`, `}` and `;`, which pop a number off the pile.
_POPPING = (124, 93, 125, 59)
# The signs that may not stand in a text that is to know itself.
_BARRED = "&($?W"


def list_writer(cells):
    """Returns an image that writes a list of integers."""
    nodes = []
    for at, cell in enumerate(cells):
        nodes.extend([(2 * at, PUSH, cell, 2 * at + 1), (2 * at + 1, WRITE, 0, 2 * at + 2)])
    return image_of(nodes)


def self_image(payload):
    """Returns an image that writes itself and ends with a payload."""
    if any([0 <= number < 200 for number in payload[::4]]):
        raise BadPayload("a node of the payload has a number from 0 to 199")
    # It writes all cells, from the first one to the last one, and ends at 8.
    # These are eight nodes, so there are 32 cells before the payload.
    nodes = [
        (0, PUSH, -32 - len(payload), 1), (1, DOUBLE, 0, 2), (2, CELL, 0, 3), (3, WRITE, 0, 4),
        (4, PUSH, 1, 5), (5, ADD, 0, 6), (6, DOUBLE, 0, 7), (7, BRANCH, 8, 1),
    ]
    return image_of(nodes) + payload


def _writes(image, cells, fuel):
    """Tells whether an image writes a list within the fuel."""
    ended, output, _ = run(image, [], fuel=fuel)
    return ended and output == cells


def is_self_writer(image, *, fuel=100000):
    """Tells whether an image writes itself within the fuel."""
    return _writes(image, image, fuel)


def _ring_image(size, number):
    """Returns the image of a ring that has a number as its last cell."""
    # Up to 9, all cells but the last one are written. Then the number of the
    # next image is: one more, or 0 behind the last image. It ends at 19.
    nodes = [
        (0, PUSH, -77, 1), (1, DOUBLE, 0, 2), (2, CELL, 0, 3), (3, WRITE, 0, 4), (4, PUSH, 1, 5), (5, ADD, 0, 6),
        (6, DOUBLE, 0, 7), (7, PUSH, -1, 8), (8, EQUAL, 0, 9), (9, BRANCH, 1, 10),
        (10, CELL, 0, 11), (11, PUSH, 1, 12), (12, ADD, 0, 13), (13, DOUBLE, 0, 14), (14, PUSH, size, 15),
        (15, LESS, 0, 16), (16, BRANCH, 18, 17), (17, WRITE, 0, 19), (18, PUSH, 0, 17),
    ]
    return image_of(nodes) + [number]


def ring_images(size):
    """Returns a ring of so many different images."""
    if not 1 <= size <= 100:
        raise BadPayload("the size of the ring is not from 1 to 100")
    return [_ring_image(size, number) for number in range(size)]


def is_ring(images, *, fuel=100000):
    """Tells whether each image writes the next one, and the last one the first one."""
    check_fuel(fuel)
    if not images:
        return False
    following = images[1:] + images[:1]
    return all([_writes(image, written, fuel) for image, written in zip(images, following)])


def is_balanced(text):
    """Tells whether the translation of a text never pops an empty pile and
    leaves nothing open."""
    translator = Translator()
    for code in codes_of(text):
        if code in _POPPING and translator.waiting is None and not translator.pile:
            return False
        translator.take(code)
    return translator.waiting is None and not translator.pile


def _preparation(size):
    """Returns a text that puts a text into the store: so many codes from the
    stack, and before them each of these codes behind a quote."""
    # `x` is the address of a code itself, `y` that of the code behind a quote.
    return (
        f"{999999 + 3 * size}=x{999999 + 2 * size}=y"
        + "{\"x!y!x1-=x39y1-!y2-=yy999999-}0=x0=y"
        + f"{3 * size}=z"
    )


def own_text(text):
    """Returns a text that does what a given text does, and knows itself."""
    if not is_balanced(text) or any([sign in text for sign in _BARRED]):
        raise NotBalanced("the text is not balanced, or has a sign that is not allowed")
    # The preparation contains the size, and the size counts the preparation.
    size = 0
    whole = _preparation(size) + text
    while len(whole) != size:
        size = len(whole)
        whole = _preparation(size) + text
    quoted = "".join([f"'{sign}" for sign in whole])
    return quoted + whole


def self_text():
    """Returns a text whose translation writes the codes of the text."""
    return own_text("{i1000000+@.i1+=iiz-}")


def self_image_text():
    """Returns a text whose translation writes itself."""
    # The translation has 13 nodes.
    return "0 52-{\"&.1+\"}"
