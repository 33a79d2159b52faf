"""The seed: the image from which the tower grows. It reads numbers."""

from plinth.nodes import image_of

# The store keeps the code that was read last at `c` (99). No node has the
# number 999, so a run that goes there ends.
_NODES = (
    # Reads a code, and goes on at 10 if it is no digit.
    (0, 84, 0, 1),
    (1, 63, 10, 2),
    # A numeral: its value stays on the stack, and each digit is put behind it.
    (2, 35, 0, 3),
    (3, 99, 0, 4),
    (4, 35, 48, 5),
    (5, 45, 0, 6),
    (6, 42, 0, 7),
    (7, 84, 0, 8),
    (8, 63, 9, 3),
    (9, 46, 0, 10),
    # Ends if the code is negative, and otherwise begins again.
    (10, 99, 0, 11),
    (11, 35, 0, 12),
    (12, 60, 0, 13),
    (13, 63, 0, 999),
    # T: reads a code, and pushes whether it is a digit, which is whether both
    # 47 < c and c < 58 hold.
    (84, 44, 0, 85),
    (85, 61, 99, 86),
    (86, 35, 47, 87),
    (87, 99, 0, 88),
    (88, 60, 0, 89),
    (89, 99, 0, 90),
    (90, 35, 58, 91),
    (91, 60, 0, 92),
    (92, 42, 0, 93),
    (93, 35, 11, 94),
    (94, 126, 0, 95),
    (95, 41, 0, 0),
)


def seed_image():
    """Returns the seed, a new list."""
    return image_of(_NODES)
