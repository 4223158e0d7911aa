"""Shares of two measures, and the items that are best for them.

A share is a tuple of its numerator and its denominator, in lowest terms, the denominator above 0.
Shares left are a tuple of the least and the greatest of them.
"""


class Contender:
    """An item's number, and its good values by the first and by the second measure taken."""

    def __init__(self, number, first, second):
        self.number = number
        self.first = first
        self.second = second


def all_shares():
    return ((0, 1), (1, 1))


def lowest_terms(over, under):
    divisor = common_divisor(abs(over), abs(under))
    if under < 0:
        divisor = -divisor
    return (over // divisor, under // divisor)


def common_divisor(one, other):
    while other != 0:
        rest = one % other
        one = other
        other = rest
    return one


def is_less(share, other):
    return share[0] * other[1] < other[0] * share[1]


def slope(contender):
    """How much a contender has more for all of the share than for none of it."""
    return contender.first - contender.second


def worth(contender, share):
    """What a contender has for a share, times the share's denominator to stay whole."""
    return share[0] * contender.first + (share[1] - share[0]) * contender.second


def even_share(one, other):
    """Where two contenders of different slopes have the same; it may lie outside 0 to 1."""
    return lowest_terms(other.second - one.second, slope(one) - slope(other))


def left_when_liked(left, liked, other):
    """The shares of those left for which liked has as much as other, or more; None without any."""
    if slope(liked) == slope(other):
        return left if liked.second >= other.second else None
    least = left[0]
    greatest = left[1]
    even = even_share(liked, other)
    if slope(liked) > slope(other):
        least = even if is_less(least, even) else least
    else:
        greatest = even if is_less(even, greatest) else greatest
    return None if is_less(greatest, least) else (least, greatest)


def may_be_best(contender, contenders, left):
    """Whether a contender has no less than all others for some share left.

    Each other one leaves it shares from one to another, so what all of them leave can be narrowed one by one.
    """
    for other in contenders:
        left = left_when_liked(left, contender, other)
        if left is None:
            return False
    return True


def piece_winners(contenders, left):
    """The number of each piece's item, the piece with the least shares first.

    Contenders stand in the order of their numbers: of several, max takes the first one.
    """
    if len(contenders) == 0:
        return []
    if left[0] == left[1]:
        return [max(contenders, key=lambda contender: worth(contender, left[0])).number]
    winners = []
    share = left[0]
    while is_less(share, left[1]):
        winner = best_just_above(contenders, share)
        winners.append(winner.number)
        share = piece_end(contenders, winner, left[1])
    return winners


def best_just_above(contenders, share):
    """Of those that are best for a share, the first one that stays so as the share grows."""
    return max(contenders, key=lambda contender: (worth(contender, share), slope(contender)))


def piece_end(contenders, winner, last):
    """The share up to which a winner stays best, at most the last one.

    Only a steeper contender can catch up, and where it does lies above the piece's beginning.
    """
    end = last
    for contender in contenders:
        if slope(contender) > slope(winner):
            even = even_share(contender, winner)
            end = even if is_less(even, end) else end
    return end
