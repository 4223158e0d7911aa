"""Questions that halve the pieces."""


def questions_needed(pieces):
    """How many questions are needed at the worst until one piece of so many is left."""
    needed = 0
    while pieces > 1:
        # The greater half may be what is left.
        pieces = (pieces + 1) // 2
        needed += 1
    return needed


def next_question(winners):
    """The items of the two pieces in the middle; with fewer than two pieces, what items they have."""
    middle = len(winners) // 2
    return winners[middle - 1:middle + 1] if len(winners) > 1 else list(winners)
