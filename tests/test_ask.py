import unittest

from tests.support import ASK, STILL, begin, bound, last, like, list_text, load, run

UPS = ["up", "up"]
THREE = load(list_text(UPS, [[4, 0], [0, 4], [3, 3]]))


def row_of_pieces(count):
    """So many items, each with a piece; the last one's has the least shares."""
    return load(list_text(["down", "down"], [[n * n, (count - 1 - n) ** 2] for n in range(count)]))


def asked(ways, rows, *calls):
    return last(load(list_text(ways, rows)), begin(0, 1), *calls, ASK)


class Refusals(unittest.TestCase):

    def test_none_taken(self):
        self.assertEqual(run(THREE, ASK, bound(0, 1, 2), ASK)[1:], [[-5], [0], [-5]])
        self.assertEqual(last(load("measures a up ; item x : 1 ;"), ASK), [-5])

    def test_none_taken_by_a_refused_begin(self):
        self.assertEqual(run(THREE, begin(1, 1), ASK)[1:], [[-3], [-5]])

    def test_none_taken_after_another_load(self):
        self.assertEqual(run(THREE, begin(0, 1), THREE, ASK)[3], [-5])


class FewPieces(unittest.TestCase):

    def test_no_item_within_the_bounds(self):
        self.assertEqual(run(THREE, begin(0, 1), bound(0, 1, 2), ASK, like(1, 2), like(2, 1), ASK)[3::3],
                         [[0, 0], [0, 0]])

    def test_a_list_without_items(self):
        self.assertEqual(asked(UPS, []), [0, 0])

    def test_one_piece(self):
        self.assertEqual(asked(UPS, [[1, 2]]), [0, 1, 0])
        self.assertEqual(asked(UPS, [[1, 2], [2, 1], [3, 3]]), [0, 1, 2])
        self.assertEqual(asked(UPS, [[1, 1], [2, 3], [2, 3]]), [0, 1, 1])

    def test_one_piece_though_another_item_is_best_at_an_end(self):
        self.assertEqual(asked(UPS, [[1, 4], [2, 4]]), [0, 1, 1])
        self.assertEqual(asked(UPS, [[4, 1], [4, 2]]), [0, 1, 1])
        self.assertEqual(asked(UPS, [[4, 0], [0, 4], [3, 3]], like(2, 1), like(2, 0)), [0, 1, 2])

    def test_just_one_share(self):
        # Of several that are best for it the first one is told.
        self.assertEqual(last(THREE, begin(0, 1), like(1, 2), like(2, 1), ASK), [0, 1, 1])
        self.assertEqual(last(THREE, begin(0, 1), like(0, 2), like(2, 0), ASK), [0, 1, 0])
        self.assertEqual(last(THREE, begin(0, 1), like(0, 1), like(1, 0), ASK), [0, 1, 2])
        self.assertEqual(asked(UPS, [[1, 4], [2, 4]], like(0, 1)), [0, 1, 0])
        self.assertEqual(asked(UPS, [[4, 1], [4, 2]], like(0, 1)), [0, 1, 0])

    def test_just_one_share_and_an_item_outside_the_bounds(self):
        self.assertEqual(last(THREE, begin(0, 1), like(1, 2), like(2, 1), bound(0, 1, 1000), ASK), [0, 1, 2])


class NextQuestion(unittest.TestCase):

    def test_from_2_to_16_pieces(self):
        for count, told in (
            (2, [1, 2, 1, 0]), (3, [2, 3, 2, 1]), (4, [2, 4, 2, 1]), (5, [3, 5, 3, 2]), (6, [3, 6, 3, 2]),
            (7, [3, 7, 4, 3]), (8, [3, 8, 4, 3]), (9, [4, 9, 5, 4]), (10, [4, 10, 5, 4]), (11, [4, 11, 6, 5]),
            (12, [4, 12, 6, 5]), (13, [4, 13, 7, 6]), (14, [4, 14, 7, 6]), (15, [4, 15, 8, 7]), (16, [4, 16, 8, 7]),
        ):
            self.assertEqual(last(row_of_pieces(count), begin(0, 1), ASK), told)

    def test_the_piece_with_the_least_shares_comes_first(self):
        # With the measures the other way round the pieces follow one another the other way round.
        for count, told in ((2, [1, 2, 0, 1]), (3, [2, 3, 0, 1]), (4, [2, 4, 1, 2]), (5, [3, 5, 1, 2]),
                            (6, [3, 6, 2, 3]), (7, [3, 7, 2, 3])):
            self.assertEqual(last(row_of_pieces(count), begin(1, 0), ASK), told)

    def test_not_by_the_items_order(self):
        self.assertEqual(last(THREE, begin(0, 1), ASK), [2, 3, 1, 2])
        self.assertEqual(last(THREE, begin(1, 0), ASK), [2, 3, 0, 2])

    def test_of_several_the_one_with_the_least_number(self):
        self.assertEqual(asked(UPS, [[0, 4], [4, 0], [0, 4], [4, 0]]), [1, 2, 0, 1])
        self.assertEqual(asked(UPS, [[1, 1], [4, 0], [4, 0], [0, 4], [0, 4]]), [1, 2, 3, 1])

    def test_three_that_are_best_for_one_same_share(self):
        self.assertEqual(asked(UPS, [[2, 2], [4, 0], [0, 4]]), [1, 2, 2, 1])

    def test_within_the_shares_left(self):
        told = run(row_of_pieces(5), begin(0, 1), like(3, 2), ASK, begin(0, 1), like(2, 3), ASK)
        self.assertEqual(told[3], [1, 2, 4, 3])
        self.assertEqual(told[6], [2, 3, 2, 1])

    def test_within_the_bounds(self):
        told = run(row_of_pieces(5), begin(0, 1), bound(0, 1, 1000), ASK, bound(1, 1, 1000), ASK, bound(0, 4, 4), ASK)
        self.assertEqual(told[3::2], [[2, 4, 3, 2], [2, 3, 3, 2], [0, 1, 2]])

    def test_asking_changes_nothing(self):
        told = run(THREE, begin(0, 1), like(2, 0), ASK, ASK, STILL)
        self.assertEqual(told[3:], [[1, 2, 1, 2], [1, 2, 1, 2], [3, 0, 1, 2, 0, 1, 3, 4]])


class EachWay(unittest.TestCase):
    """Promise 2: every answer leaves at most half of the pieces, rounded up, and in the end one."""

    def test_after_as_many_questions_as_told_one_is_left(self):
        for count in range(1, 17):
            before = [row_of_pieces(count), begin(0, 1)]
            reached = self.play(before, last(*before, ASK))
            self.assertEqual(reached, list(range(count)))

    def play(self, before, asked_now):
        """Answers each question each way; all items that come out, in order."""
        needed, pieces, items = asked_now[0], asked_now[1], asked_now[2:]
        if needed == 0:
            self.assertEqual((pieces, len(items)), (1, 1))
            return items
        reached = []
        for i, j in (items, items[::-1]):
            told = run(*before, like(i, j), ASK)
            self.assertEqual(told[-2][-1], told[-1][1])
            self.assertLessEqual(told[-1][1], (pieces + 1) // 2)
            self.assertLessEqual(told[-1][0], needed - 1)
            reached += self.play(before + [like(i, j)], told[-1])
        return sorted(reached)

    def test_at_the_worst_as_many_as_told_are_needed(self):
        for count in range(2, 17):
            calls = [row_of_pieces(count), begin(0, 1)]
            first = now = last(*calls, ASK)
            questions = 0
            while now[1] > 1:
                # The second one liked leaves the greater half.
                calls.append(like(now[3], now[2]))
                now = last(*calls, ASK)
                questions += 1
            self.assertEqual(questions, first[0], count)


if __name__ == "__main__":
    unittest.main()
