"""The object on which calls are made: a list that is held, and the wishes as they are now."""

from bestwishes.faults import Fault
from bestwishes.lists import read_list
from bestwishes.shares import Contender, all_shares, left_when_liked, piece_winners

NO_SUCH_ITEM = -2
NO_SUCH_MEASURE = -3
WRONG_BOUNDS = -4
NONE_TAKEN = -5
NO_SHARE_LEFT = -6

LOWEST_BOUND = -1000
HIGHEST_BOUND = 1000


class Wishes:
    """Bounds for each measure; the two measures taken and the shares left, or None for both.

    Wishes are never changed: a change puts others in their place.
    """

    def __init__(self, bounds, pair, left):
        self.bounds = bounds
        self.pair = pair
        self.left = left


class Session:
    """Answers calls, each with a list of numbers; all but load need a list that is held."""

    def __init__(self):
        self.held = None
        self.wishes = None

    def load(self, text):
        try:
            held = read_list(text)
        except Fault as fault:
            return [0, fault.code, fault.place]
        self.held = held
        self.wishes = Wishes([(LOWEST_BOUND, HIGHEST_BOUND) for way in held.ways], None, None)
        return [1, len(held.ways), len(held.rows)]

    def bound(self, measure, low, high):
        if not self.has_measure(measure):
            return [NO_SUCH_MEASURE]
        if low < LOWEST_BOUND or high > HIGHEST_BOUND or high < low:
            return [WRONG_BOUNDS]
        bounds = list(self.wishes.bounds)
        bounds[measure] = (low, high)
        self.wishes = Wishes(bounds, self.wishes.pair, self.wishes.left)
        return [len(self.numbers_within())]

    def begin(self, first, second):
        if not self.has_measure(first) or not self.has_measure(second) or first == second:
            return [NO_SUCH_MEASURE]
        self.wishes = Wishes(self.wishes.bounds, (first, second), all_shares())
        return [1, len(self.winners())]

    def like(self, liked, other):
        if self.wishes.pair is None:
            return [NONE_TAKEN]
        if not self.has_item(liked) or not self.has_item(other):
            return [NO_SUCH_ITEM]
        left = left_when_liked(self.wishes.left, self.contender(liked), self.contender(other))
        if left is None:
            return [NO_SHARE_LEFT]
        self.wishes = Wishes(self.wishes.bounds, self.wishes.pair, left)
        return [1, left[0][0], left[0][1], left[1][0], left[1][1], len(self.winners())]

    def has_measure(self, measure):
        return 0 <= measure < len(self.held.ways)

    def has_item(self, item):
        return 0 <= item < len(self.held.rows)

    def numbers_within(self):
        """The numbers of the items within the bounds, in order."""
        bounds = self.wishes.bounds
        return [number for number, row in enumerate(self.held.rows) if is_within(row, bounds)]

    def contender(self, item):
        """An item as it stands against others by the two measures taken."""
        pair = self.wishes.pair
        return Contender(item, self.good_value(item, pair[0]), self.good_value(item, pair[1]))

    def good_value(self, item, measure):
        return self.held.ways[measure] * self.held.rows[item][measure]

    def winners(self):
        """The item of each piece, in the pieces' order."""
        return piece_winners([self.contender(item) for item in self.numbers_within()], self.wishes.left)


def is_within(row, bounds):
    return all([pair[0] <= value <= pair[1] for value, pair in zip(row, bounds)])
