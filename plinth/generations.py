"""Generations: what a binary makes of a text, what that makes of it, and so on."""

from plinth.machine import check_fuel, run
from plinth.signs import codes_of


def child_of(binary, codes, fuel):
    """Returns what a binary writes for the codes of a text, or None."""
    ended, output, _ = run(binary, codes, fuel=fuel)
    return output if ended else None


def child(binary, text, *, fuel=100000):
    """Returns what a binary writes for a text, or None if it does not end."""
    return child_of(binary, codes_of(text), fuel)


def generations(binary, text, count, *, fuel=100000):
    """Returns the generations 0 to `count`, or those up to one without a child."""
    codes = codes_of(text)
    check_fuel(fuel)
    found = [list(binary)]
    while len(found) <= count:
        following = child_of(found[-1], codes, fuel)
        if following is None:
            break
        found.append(following)
    return found


def settle(binary, text, *, most=4, fuel=100000):
    """Returns the index of the first settled generation, and that generation."""
    codes = codes_of(text)
    generation = list(binary)
    for index in range(most + 1):
        following = child_of(generation, codes, fuel)
        if following is None:
            return None
        if following == generation:
            return (index, generation)
        generation = following
    return None
