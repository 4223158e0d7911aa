"""The object on which calls are made: a list that is held, the wishes as they are now, and those before changes."""

from bestwishes.beating import is_unbeaten
from bestwishes.faults import Fault
from bestwishes.lists import read_list
from bestwishes.questions import next_question, questions_needed
from bestwishes.shares import Contender, all_shares, left_when_liked, may_be_best, piece_winners

NO_SUCH_ITEM = -2
NO_SUCH_MEASURE = -3
WRONG_BOUNDS = -4
NONE_TAKEN = -5
NO_SHARE_LEFT = -6
NO_CHANGE_HELD = -8

LOWEST_BOUND = -1000
HIGHEST_BOUND = 1000
MOST_CHANGES = 20


class Wishes:
    """Bounds for each measure; the two measures taken and the shares left, or None for both.

    Wishes are never changed: a change puts others in their place.
    """

    def __init__(self, bounds, pair, left):
        self.bounds = bounds
        self.pair = pair
        self.left = left


class Session:
    """Answers calls, each with a list of numbers; all but load need a list that is held."""

    def __init__(self):
        self.held = None
        self.wishes = None
        self.before = []

    def load(self, text):
        try:
            held = read_list(text)
        except Fault as fault:
            return [0, fault.code, fault.place]
        self.held = held
        self.wishes = Wishes([(LOWEST_BOUND, HIGHEST_BOUND) for way in held.ways], None, None)
        self.before = []
        return [1, len(held.ways), len(held.rows)]

    def bound(self, measure, low, high):
        if not self.has_measure(measure):
            return [NO_SUCH_MEASURE]
        if low < LOWEST_BOUND or high > HIGHEST_BOUND or high < low:
            return [WRONG_BOUNDS]
        bounds = list(self.wishes.bounds)
        bounds[measure] = (low, high)
        self.change(Wishes(bounds, self.wishes.pair, self.wishes.left))
        return [len(self.numbers_within())]

    def begin(self, first, second):
        if not self.has_measure(first) or not self.has_measure(second) or first == second:
            return [NO_SUCH_MEASURE]
        self.change(Wishes(self.wishes.bounds, (first, second), all_shares()))
        return [1, len(self.winners())]

    def like(self, liked, other):
        if self.wishes.pair is None:
            return [NONE_TAKEN]
        if not self.has_item(liked) or not self.has_item(other):
            return [NO_SUCH_ITEM]
        left = left_when_liked(self.wishes.left, self.contender(liked), self.contender(other))
        if left is None:
            return [NO_SHARE_LEFT]
        self.change(Wishes(self.wishes.bounds, self.wishes.pair, left))
        return [1] + told_shares(left) + [len(self.winners())]

    def still(self):
        if self.wishes.pair is None:
            return [NONE_TAKEN]
        left = self.wishes.left
        contenders = self.contenders()
        numbers = [each.number for each in contenders if may_be_best(each, contenders, left)]
        return [len(numbers)] + numbers + told_shares(left)

    def ask(self):
        if self.wishes.pair is None:
            return [NONE_TAKEN]
        winners = self.winners()
        return [questions_needed(len(winners)), len(winners)] + next_question(winners)

    def best(self):
        within = self.numbers_within()
        rows = [self.good_row(item) for item in within]
        numbers = [item for item, row in zip(within, rows) if is_unbeaten(row, rows)]
        return [len(numbers)] + numbers

    def undo(self):
        if len(self.before) == 0:
            return [NO_CHANGE_HELD]
        self.wishes = self.before.pop()
        return [len(self.numbers_within())]

    def change(self, wishes):
        """Puts other wishes in place, and holds those before the last changes, so that they can be undone."""
        self.before.append(self.wishes)
        self.before = self.before[-MOST_CHANGES:]
        self.wishes = wishes

    def has_measure(self, measure):
        return 0 <= measure < len(self.held.ways)

    def has_item(self, item):
        return 0 <= item < len(self.held.rows)

    def numbers_within(self):
        """The numbers of the items within the bounds, in order."""
        bounds = self.wishes.bounds
        return [number for number, row in enumerate(self.held.rows) if is_within(row, bounds)]

    def contender(self, item):
        """An item as it stands against others by the two measures taken."""
        pair = self.wishes.pair
        return Contender(item, self.good_value(item, pair[0]), self.good_value(item, pair[1]))

    def contenders(self):
        """All items within the bounds, as they stand against each other."""
        return [self.contender(item) for item in self.numbers_within()]

    def good_value(self, item, measure):
        return self.held.ways[measure] * self.held.rows[item][measure]

    def good_row(self, item):
        """An item's good values by all measures."""
        return [self.good_value(item, measure) for measure in range(len(self.held.ways))]

    def winners(self):
        """The item of each piece, in the pieces' order."""
        return piece_winners(self.contenders(), self.wishes.left)


def told_shares(left):
    return list(left[0] + left[1])


def is_within(row, bounds):
    return all([pair[0] <= value <= pair[1] for value, pair in zip(row, bounds)])
