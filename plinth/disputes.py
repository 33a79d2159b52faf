"""Disputes between claims about the same run, and who is blamed."""

from plinth.claims import check_claim, due, entry


def _agree(first, second):
    return len(first) == len(second) and first[-1] == second[-1]


def _parting(first, second):
    """Returns an index at which two claims part, and the indexes that were asked."""
    low = -1
    high = len(first) - 1 if len(first) == len(second) else min(len(first), len(second))
    asked = []
    while high > low + 1:
        middle = (low + high) // 2
        asked.append(middle)
        if entry(first, middle) == entry(second, middle):
            low = middle
        else:
            high = middle
    return (high, asked)


def dispute(image, numbers, first, second):
    """Returns where two claims part, what was asked, and who is blamed, or None."""
    check_claim(first)
    check_claim(second)
    if _agree(first, second):
        return None
    high, asked = _parting(first, second)
    right = due(image, numbers, first, high)
    return (high, asked, entry(first, high) != right, entry(second, high) != right)


def settle(image, numbers, claims):
    """Returns the claims of the group at the end, and the disputes."""
    for claim in claims:
        check_claim(claim)
    group = []
    disputes = []
    for index, claim in enumerate(claims):
        if group and not _agree(claims[group[0]], claim):
            verdicts = [dispute(image, numbers, claims[member], claim) for member in group]
            disputes.extend([(member, index) for member in group])
            group = [member for member, verdict in zip(group, verdicts) if not verdict[2]]
            if any([verdict[3] for verdict in verdicts]):
                continue
        group.append(index)
    return (group, disputes)
