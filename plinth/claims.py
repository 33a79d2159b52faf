"""Claims about runs: lists of the states that a run is said to go through."""

from plinth.errors import BadClaim
from plinth.machine import State, run
from plinth.story import next_state, start, story


def check_claim(claim):
    """Raises BadClaim if a claim is empty."""
    if not claim:
        raise BadClaim("the claim has no state")


def right_claim(image, numbers, *, fuel):
    """Returns the right claim, or None if the run does not end."""
    # A story may be large, so it is made only for a run that ends.
    ended, _, steps = run(image, numbers, fuel=fuel)
    return story(image, numbers, fuel=steps) if ended else None


def result_of(claim):
    """Returns the output and the number of steps that are claimed."""
    check_claim(claim)
    return (list(claim[-1][5]), len(claim) - 1)


def entry(claim, index):
    """Returns an entry, None behind the last state."""
    if index < 0:
        raise BadClaim("the index of an entry is negative")
    return claim[index] if index < len(claim) else None


def due(image, numbers, claim, index):
    """Returns the entry that is due behind the one before it in the claim."""
    if index == 0:
        return start(image, numbers)
    before = entry(claim, index - 1)
    return None if before is None else next_state(image, numbers, before)


def first_fault(image, numbers, claim):
    """Returns the index of the first entry at fault, or None."""
    check_claim(claim)
    # Up to the first fault the entries are the states of one run.
    state = State(image, numbers)
    for index, claimed in enumerate(claim):
        if state.steps < index or state.plain() != claimed:
            return index
        state.step()
    return len(claim) if state.steps == len(claim) else None
