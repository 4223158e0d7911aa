"""Items against each other by all measures, each told by its row of good values."""


def beats(row, other):
    # As good by all measures and not the same: so it is better by one at least.
    return row != other and all([value >= rival for value, rival in zip(row, other)])


def is_unbeaten(row, rows):
    return not any([beats(other, row) for other in rows])
