"""The promises over many lists, held against the document's words in exact fractions."""

import random
import unittest
from fractions import Fraction

from tests.support import begin, bound, good_pairs, has, like, list_text, load, run, shares_of

SPANS = (2, 3, 10, 1000)


class Case:
    """A list with values from a small or a great span, so that ties and lowest terms both come up."""

    def __init__(self, number):
        self.dice = random.Random(number)
        span = SPANS[number % len(SPANS)]
        self.ways = [self.dice.choice(("up", "down")) for _ in range(self.dice.randint(2, 4))]
        self.rows = [[self.dice.randint(-span, span) for _ in self.ways]
                     for _ in range(self.dice.randint(1, 16))]
        self.bounds = []
        for m in range(len(self.ways)):
            if self.dice.random() < 0.3:
                ends = sorted((self.dice.randint(-span, span), self.dice.randint(-span, span)))
                self.bounds.append((m, ends[0], ends[1]))
        self.m, self.k = self.dice.sample(range(len(self.ways)), 2)
        self.pairs = good_pairs(self.ways, self.rows, self.m, self.k)
        self.load = load(list_text(self.ways, self.rows))

    def within(self):
        return [item for item, row in enumerate(self.rows)
                if all(lo <= row[m] <= hi for m, lo, hi in self.bounds)]

    def two_items(self):
        return self.dice.randrange(len(self.rows)), self.dice.randrange(len(self.rows))


def best(pairs, items, share):
    """All items that are best for a share."""
    most = max(has(pairs[item], share) for item in items)
    return [item for item in items if has(pairs[item], share) == most]


def crossings(pairs):
    """All shares for which two items that aren't the same have as much."""
    found = set()
    for one in pairs:
        for other in pairs:
            rise = (one[0] - one[1]) - (other[0] - other[1])
            if rise != 0:
                found.add(Fraction(other[1] - one[1], rise))
    return found


def count_pieces(pairs, items, least, greatest):
    """Counts pieces by the first best item halfway between any two shares where something can change."""
    if not items:
        return 0
    if least == greatest:
        return 1
    marks = sorted({least, greatest} | {share for share in crossings(pairs) if least < share < greatest})
    winners = [best(pairs, items, (low + high) / 2)[0] for low, high in zip(marks, marks[1:])]
    return 1 + sum(1 for one, other in zip(winners, winners[1:]) if one != other)


class Promises(unittest.TestCase):

    def test_pieces_and_shares_left(self):
        for number in range(400):
            case = Case(number)
            likes = [case.two_items() for _ in range(6)]
            told = run(case.load, *[bound(*each) for each in case.bounds], begin(case.m, case.k),
                       *[like(i, j) for i, j in likes])
            told = told[1 + len(case.bounds):]
            least, greatest = Fraction(0), Fraction(1)
            items = case.within()
            self.assertEqual(told[0], [1, count_pieces(case.pairs, items, least, greatest)], number)
            for (i, j), answer in zip(likes, told[1:]):
                left = self.left(case.pairs, i, j, least, greatest)
                if left is None:
                    self.assertEqual(answer, [-6], number)
                    continue
                least, greatest = left
                self.assertEqual(answer, [
                    1, least.numerator, least.denominator, greatest.numerator, greatest.denominator,
                    count_pieces(case.pairs, items, least, greatest)], number)

    def left(self, pairs, i, j, least, greatest):
        """The shares for which i has as much as j, found by trying each end and each crossing."""
        marks = {least, greatest} | {share for share in crossings([pairs[i], pairs[j]])
                                     if least < share < greatest}
        right = [share for share in sorted(marks) if has(pairs[i], share) >= has(pairs[j], share)]
        return (right[0], right[-1]) if right else None

    def test_1_who_answers_by_a_share_keeps_it(self):
        for number in range(300):
            case = Case(number)
            share = self.some_share(case)
            likes = []
            for _ in range(12):
                i, j = case.two_items()
                likes.append((i, j) if has(case.pairs[i], share) >= has(case.pairs[j], share) else (j, i))
            told = run(case.load, begin(case.m, case.k), *[like(i, j) for i, j in likes])
            for answer in told[2:]:
                self.assertEqual(answer[0], 1, number)
                least, greatest = shares_of(answer)
                self.assertLessEqual(least, share, number)
                self.assertLessEqual(share, greatest, number)
                self.assertGreaterEqual(answer[5], 1, number)

    def some_share(self, case):
        """A share of no mark, the first or the last one, or one for which two items have as much."""
        marks = sorted(share for share in crossings(case.pairs) if 0 <= share <= 1)
        return case.dice.choice([Fraction(0), Fraction(1), Fraction(case.dice.randint(0, 997), 997)] + marks)

    def test_4_bounds_have_nothing_to_do_with_shares(self):
        for number in range(200):
            case = Case(number)
            bounds = [bound(*each) for each in case.bounds]
            i, j = case.two_items()
            alone = run(case.load, *bounds)[1:]
            self.assertEqual(run(case.load, begin(case.m, case.k), like(i, j), *bounds)[3:], alone, number)
            if bounds:
                self.assertEqual(alone[-1], [len(case.within())], number)
            before = run(case.load, begin(case.m, case.k), like(i, j))[2]
            behind = run(case.load, *bounds, begin(case.m, case.k), like(i, j), *bounds, like(j, j))
            self.assertEqual(behind[2 + len(bounds)][:5], before[:5], number)
            if before != [-6]:
                self.assertEqual(behind[-1][:5], before[:5], number)


if __name__ == "__main__":
    unittest.main()
