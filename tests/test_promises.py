"""The promises over many lists, held against the document's words in exact fractions."""

import random
import unittest
from fractions import Fraction

from tests.support import (
    ASK, BEST, STILL, UNDO, begin, bound, good_pairs, has, last, like, list_text, load, run, shares_of, still_of)

SPANS = (2, 3, 10, 1000)


class Case:
    """A list with values from a small or a great span, so that ties and lowest terms both come up."""

    def __init__(self, number):
        self.dice = random.Random(number)
        span = SPANS[number % len(SPANS)]
        self.ways = [self.dice.choice(("up", "down")) for _ in range(self.dice.randint(2, 4))]
        self.rows = [[self.dice.randint(-span, span) for _ in self.ways]
                     for _ in range(self.dice.randint(1, 16))]
        self.bounds = []
        for m in range(len(self.ways)):
            if self.dice.random() < 0.3:
                ends = sorted((self.dice.randint(-span, span), self.dice.randint(-span, span)))
                self.bounds.append((m, ends[0], ends[1]))
        self.m, self.k = self.dice.sample(range(len(self.ways)), 2)
        self.pairs = good_pairs(self.ways, self.rows, self.m, self.k)
        self.load = load(list_text(self.ways, self.rows))

    def within(self):
        return [item for item, row in enumerate(self.rows)
                if all(lo <= row[m] <= hi for m, lo, hi in self.bounds)]

    def good_rows(self):
        return [[value if way == "up" else -value for value, way in zip(row, self.ways)] for row in self.rows]

    def bound_calls(self):
        return [bound(*each) for each in self.bounds]

    def two_items(self):
        return self.dice.randrange(len(self.rows)), self.dice.randrange(len(self.rows))


def best(pairs, items, share):
    """All items that are best for a share."""
    most = max(has(pairs[item], share) for item in items)
    return [item for item in items if has(pairs[item], share) == most]


def crossings(pairs):
    """All shares for which two items that aren't the same have as much."""
    found = set()
    for one in pairs:
        for other in pairs:
            rise = (one[0] - one[1]) - (other[0] - other[1])
            if rise != 0:
                found.add(Fraction(other[1] - one[1], rise))
    return found


def marks_between(pairs, least, greatest):
    """The shares left where something can change, their ends too, in order."""
    return sorted({least, greatest} | {share for share in crossings(pairs) if least < share < greatest})


def winners_of(pairs, items, least, greatest):
    """Each piece's item, by the first best one halfway between any two shares where something can change."""
    if not items:
        return []
    if least == greatest:
        return best(pairs, items, least)[:1]
    marks = marks_between(pairs, least, greatest)
    winners = [best(pairs, items, (low + high) / 2)[0] for low, high in zip(marks, marks[1:])]
    return winners[:1] + [other for one, other in zip(winners, winners[1:]) if one != other]


def count_pieces(pairs, items, least, greatest):
    return len(winners_of(pairs, items, least, greatest))


def needed(pieces):
    """How many questions are needed at the worst, in the document's own words."""
    return 0 if pieces < 2 else 1 + needed(-(-pieces // 2))


def may_be_best(pairs, items, least, greatest):
    """All that are best for one of the shares where something can change, or halfway between two."""
    if not items:
        return []
    marks = marks_between(pairs, least, greatest)
    marks += [(low + high) / 2 for low, high in zip(marks, marks[1:])]
    return sorted({item for share in marks for item in best(pairs, items, share)})


def unbeaten(rows, items):
    """By rows of good values: those that none of the items beats."""
    def beats(one, other):
        pairs = list(zip(rows[one], rows[other]))
        return all(a >= b for a, b in pairs) and any(a > b for a, b in pairs)
    return [item for item in items if not any(beats(other, item) for other in items)]


class Promises(unittest.TestCase):

    def test_pieces_and_shares_left(self):
        for number in range(400):
            case = Case(number)
            likes = [case.two_items() for _ in range(6)]
            told = run(case.load, *[bound(*each) for each in case.bounds], begin(case.m, case.k),
                       *[like(i, j) for i, j in likes])
            told = told[1 + len(case.bounds):]
            least, greatest = Fraction(0), Fraction(1)
            items = case.within()
            self.assertEqual(told[0], [1, count_pieces(case.pairs, items, least, greatest)], number)
            for (i, j), answer in zip(likes, told[1:]):
                left = self.left(case.pairs, i, j, least, greatest)
                if left is None:
                    self.assertEqual(answer, [-6], number)
                    continue
                least, greatest = left
                self.assertEqual(answer, [
                    1, least.numerator, least.denominator, greatest.numerator, greatest.denominator,
                    count_pieces(case.pairs, items, least, greatest)], number)

    def left(self, pairs, i, j, least, greatest):
        """The shares for which i has as much as j, found by trying each end and each crossing."""
        marks = {least, greatest} | {share for share in crossings([pairs[i], pairs[j]])
                                     if least < share < greatest}
        right = [share for share in sorted(marks) if has(pairs[i], share) >= has(pairs[j], share)]
        return (right[0], right[-1]) if right else None

    def test_1_who_answers_by_a_share_keeps_it(self):
        for number in range(300):
            case = Case(number)
            share = self.some_share(case)
            likes = []
            for _ in range(12):
                i, j = case.two_items()
                likes.append((i, j) if has(case.pairs[i], share) >= has(case.pairs[j], share) else (j, i))
            told = run(case.load, begin(case.m, case.k), *[like(i, j) for i, j in likes])
            for answer in told[2:]:
                self.assertEqual(answer[0], 1, number)
                least, greatest = shares_of(answer)
                self.assertLessEqual(least, share, number)
                self.assertLessEqual(share, greatest, number)
                self.assertGreaterEqual(answer[5], 1, number)

    def test_1_the_best_one_may_be_best_to_the_end(self):
        for number in range(300):
            case = Case(number)
            share = self.some_share(case)
            items = case.within()
            calls = [case.load, *case.bound_calls(), begin(case.m, case.k)]
            wanted = set(best(case.pairs, items, share)) if items else set()
            asked, still = run(*calls, ASK, STILL)[-2:]
            self.assert_kept(still, share, wanted, number)
            while asked[1] > 1:
                i, j = asked[2:]
                calls.append(like(i, j) if has(case.pairs[i], share) >= has(case.pairs[j], share) else like(j, i))
                asked, still = run(*calls, ASK, STILL)[-2:]
                self.assert_kept(still, share, wanted, number)

    def assert_kept(self, still, share, wanted, number):
        items, least, greatest = still_of(still)
        self.assertTrue(least <= share <= greatest, number)
        self.assertLessEqual(wanted, set(items), number)

    def test_2_each_answer_leaves_at_most_half_of_the_pieces(self):
        for number in range(300):
            case = Case(number)
            calls = [case.load, *case.bound_calls(), begin(case.m, case.k)]
            for _ in range(2):
                calls.append(like(*case.two_items()))
            asked = last(*calls, ASK)
            for questions in range(asked[0], 0, -1):
                if asked[1] == 1:
                    break
                self.assertLessEqual(asked[0], questions, number)
                items = asked[2:]
                case.dice.shuffle(items)
                calls.append(like(*items))
                half = (asked[1] + 1) // 2
                asked = last(*calls, ASK)
                self.assertTrue(1 <= asked[1] <= half, number)
            self.assertEqual(asked[:2], [0, 1 if case.within() else 0], number)

    def test_3_what_may_be_best(self):
        for number in range(400):
            case = Case(number)
            items = case.within()
            likes = [like(*case.two_items()) for _ in range(4)]
            for count in range(len(likes) + 1):
                calls = [case.load, *case.bound_calls(), begin(case.m, case.k), *likes[:count]]
                asked, still = run(*calls, ASK, STILL)[-2:]
                told, least, greatest = still_of(still)
                self.assertEqual(told, may_be_best(case.pairs, items, least, greatest), number)
                winners = winners_of(case.pairs, items, least, greatest)
                middle = len(winners) // 2
                question = winners[middle - 1:middle + 1] if len(winners) > 1 else winners
                self.assertEqual(asked, [needed(len(winners)), len(winners)] + question, number)
                self.assertLessEqual(set(winners), set(told), number)

    def test_4_unbeaten_items(self):
        for number in range(400):
            case = Case(number)
            items = unbeaten(case.good_rows(), case.within())
            i, j = case.two_items()
            told = run(case.load, *case.bound_calls(), BEST, begin(case.m, case.k), BEST, like(i, j), BEST)
            self.assertEqual(told[-1::-2][:3], [[len(items)] + items] * 3, number)

    def test_4_best_between_0_and_1_is_not_beaten_by_the_two_measures(self):
        for number in range(400):
            case = Case(number)
            free = unbeaten(case.pairs, case.within())
            for i, j in [case.two_items() for _ in range(10)]:
                if not any(0 < share < 1 for share in crossings([case.pairs[i], case.pairs[j]])):
                    continue
                # Liked no less than each other: just the share for which they have as much is left.
                told = run(case.load, *case.bound_calls(), begin(case.m, case.k), like(i, j), like(j, i), STILL)
                items, least, greatest = still_of(told[-1])
                self.assertTrue(0 < least == greatest < 1, number)
                self.assertLessEqual(set(items), set(free), number)

    def test_5_undone_is_as_if_it_had_never_been(self):
        for number in range(200):
            case = Case(number)
            calls = []
            lasting = []
            for _ in range(30):
                call = self.some_call(case)
                answer = last(case.load, *calls, call)
                calls.append(call)
                if call == UNDO:
                    self.assertEqual(answer == [-8], not lasting, number)
                    lasting = lasting[:-1]
                elif answer[0] >= 0:
                    lasting.append(call)
            shown = run(case.load, *calls, STILL, ASK, BEST)[-3:]
            self.assertEqual(shown, run(case.load, *lasting, STILL, ASK, BEST)[-3:], number)

    def some_call(self, case):
        kind = case.dice.choice((1, 2, 3, 3, 7, 7))
        if kind == 1:
            ends = [case.dice.randint(-20, 20), case.dice.randint(-1000, 1000)]
            return bound(case.dice.randrange(len(case.ways)), *sorted(ends))
        if kind == 2:
            return begin(case.dice.randrange(len(case.ways)), case.dice.randrange(len(case.ways)))
        return like(*case.two_items()) if kind == 3 else UNDO

    def some_share(self, case):
        """A share of no mark, the first or the last one, or one for which two items have as much."""
        marks = sorted(share for share in crossings(case.pairs) if 0 <= share <= 1)
        return case.dice.choice([Fraction(0), Fraction(1), Fraction(case.dice.randint(0, 997), 997)] + marks)

    def test_4_bounds_have_nothing_to_do_with_shares(self):
        for number in range(200):
            case = Case(number)
            bounds = [bound(*each) for each in case.bounds]
            i, j = case.two_items()
            alone = run(case.load, *bounds)[1:]
            self.assertEqual(run(case.load, begin(case.m, case.k), like(i, j), *bounds)[3:], alone, number)
            if bounds:
                self.assertEqual(alone[-1], [len(case.within())], number)
            before = run(case.load, begin(case.m, case.k), like(i, j))[2]
            behind = run(case.load, *bounds, begin(case.m, case.k), like(i, j), *bounds, like(j, j))
            self.assertEqual(behind[2 + len(bounds)][:5], before[:5], number)
            if before != [-6]:
                self.assertEqual(behind[-1][:5], before[:5], number)


if __name__ == "__main__":
    unittest.main()
