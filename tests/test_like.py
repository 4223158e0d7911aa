import unittest

from tests.support import begin, bound, last, like, list_text, load, run

FAR = 10 ** 18
THREE = load(list_text(["up", "up"], [[4, 0], [0, 4], [3, 3]]))


def liked(ways, rows, *likes):
    return last(load(list_text(ways, rows)), begin(0, 1), *likes)


class Refusals(unittest.TestCase):

    def test_none_taken(self):
        self.assertEqual(last(THREE, like(0, 1)), [-5])

    def test_no_such_item(self):
        for wrong in (-1, 3, 4, FAR, -FAR):
            for i, j in ((wrong, 0), (0, wrong), (wrong, wrong)):
                self.assertEqual(last(THREE, begin(0, 1), like(i, j)), [-2], (i, j))

    def test_without_items(self):
        self.assertEqual(last(load("measures a up, b up ;"), begin(0, 1), like(0, 0)), [-2])

    def test_no_share_left(self):
        # The other one is better by both measures, and by one just the same amount.
        self.assertEqual(liked(["up", "up"], [[1, 1], [2, 2]], like(0, 1)), [-6])
        self.assertEqual(liked(["up", "up"], [[1, 1], [2, 3]], like(0, 1)), [-6])
        self.assertEqual(liked(["up", "up"], [[1, 1], [3, 2]], like(0, 1)), [-6])

    def test_no_share_left_of_those_left(self):
        self.assertEqual(run(THREE, begin(0, 1), like(2, 0), like(2, 1), like(0, 1), like(1, 2), like(0, 2))[2:],
                         [[1, 0, 1, 3, 4, 2], [1, 1, 4, 3, 4, 1], [1, 1, 2, 3, 4, 1], [-6], [1, 3, 4, 3, 4, 1]])

    def test_their_order(self):
        self.assertEqual(last(THREE, like(9, 9)), [-5])
        self.assertEqual(liked(["up", "up"], [[1, 1], [2, 2]], like(0, 2)), [-2])
        self.assertEqual(liked(["up", "up"], [[1, 1], [2, 2]], like(-1, 1)), [-2])

    def test_a_refusal_changes_nothing(self):
        told = run(THREE, begin(0, 1), like(2, 0), like(5, 0), like(0, -1), like(2, 2))
        self.assertEqual(told[2:], [[1, 0, 1, 3, 4, 2], [-2], [-2], [1, 0, 1, 3, 4, 2]])
        told = run(THREE, begin(0, 1), like(1, 2), like(0, 2), like(1, 1))
        self.assertEqual(told[2:], [[1, 0, 1, 1, 4, 1], [-6], [1, 0, 1, 1, 4, 1]])


class SharesLeft(unittest.TestCase):

    def test_the_same_item_twice(self):
        for i in range(3):
            self.assertEqual(last(THREE, begin(0, 1), like(i, i)), [1, 0, 1, 1, 1, 3])

    def test_items_that_are_the_same(self):
        self.assertEqual(liked(["up", "up"], [[1, 2], [1, 2]], like(1, 0)), [1, 0, 1, 1, 1, 1])

    def test_all_shares(self):
        # Better by both: by the same, by more for the first, by more for the second.
        for better in ([2, 2], [3, 2], [2, 3], [1, 2], [2, 1]):
            self.assertEqual(liked(["up", "up"], [[1, 1], better], like(1, 0)), [1, 0, 1, 1, 1, 1])

    def test_a_part_from_below(self):
        self.assertEqual(last(THREE, begin(0, 1), like(1, 2)), [1, 0, 1, 1, 4, 1])
        self.assertEqual(last(THREE, begin(0, 1), like(2, 0)), [1, 0, 1, 3, 4, 2])

    def test_a_part_from_above(self):
        self.assertEqual(last(THREE, begin(0, 1), like(0, 2)), [1, 3, 4, 1, 1, 1])
        self.assertEqual(last(THREE, begin(0, 1), like(2, 1)), [1, 1, 4, 1, 1, 2])

    def test_from_both_one_behind_another(self):
        told = run(THREE, begin(0, 1), like(2, 1), like(2, 0))
        self.assertEqual(told[2:], [[1, 1, 4, 1, 1, 2], [1, 1, 4, 3, 4, 1]])

    def test_a_wider_liking_leaves_what_was_left(self):
        told = run(THREE, begin(0, 1), like(1, 2), like(1, 0), like(2, 0))
        self.assertEqual(told[2:], [[1, 0, 1, 1, 4, 1]] * 3)
        told = run(THREE, begin(0, 1), like(0, 2), like(0, 1), like(2, 1))
        self.assertEqual(told[2:], [[1, 3, 4, 1, 1, 1]] * 3)

    def test_just_one_share(self):
        told = run(THREE, begin(0, 1), like(1, 2), like(2, 1), like(1, 2), like(2, 0))
        self.assertEqual(told[3:], [[1, 1, 4, 1, 4, 1]] * 3)

    def test_just_the_share_0_or_1(self):
        # They are the same by one measure, so the worse one keeps up for one share alone.
        self.assertEqual(liked(["up", "up"], [[1, 4], [2, 4]], like(0, 1)), [1, 0, 1, 0, 1, 1])
        self.assertEqual(liked(["up", "up"], [[4, 1], [4, 2]], like(0, 1)), [1, 1, 1, 1, 1, 1])

    def test_one_share_with_several_best(self):
        rows = [[0, 4], [2, 2], [4, 0], [2, 2]]
        told = run(load(list_text(["up", "up"], rows)), begin(0, 1), like(0, 2), like(2, 0))
        self.assertEqual(told[1:], [[1, 2], [1, 0, 1, 1, 2, 1], [1, 1, 2, 1, 2, 1]])

    def test_one_share_with_no_item_within_the_bounds(self):
        told = run(THREE, bound(0, 1, 2), begin(0, 1), like(1, 2), like(2, 1))
        self.assertEqual(told[1:], [[0], [1, 0], [1, 0, 1, 1, 4, 0], [1, 1, 4, 1, 4, 0]])

    def test_items_that_are_not_within_the_bounds_can_be_liked(self):
        told = run(THREE, bound(0, 3, 3), begin(0, 1), like(0, 1), like(1, 0))
        self.assertEqual(told[1:], [[1], [1, 1], [1, 1, 2, 1, 1, 1], [1, 1, 2, 1, 2, 1]])

    def test_lowest_terms(self):
        self.assertEqual(liked(["up", "up"], [[6, 0], [0, 10]], like(0, 1)), [1, 5, 8, 1, 1, 1])
        self.assertEqual(liked(["up", "up"], [[6, 0], [0, 10]], like(1, 0)), [1, 0, 1, 5, 8, 1])
        self.assertEqual(liked(["up", "up"], [[1000, -1000], [-1000, 1000]], like(0, 1)), [1, 1, 2, 1, 1, 1])
        self.assertEqual(liked(["up", "up"], [[1000, -1000], [-999, 1000]], like(0, 1)),
                         [1, 2000, 3999, 1, 1, 1])

    def test_up_and_down(self):
        rows = [[1, 0], [0, 3]]
        self.assertEqual(liked(["up", "up"], rows, like(0, 1)), [1, 3, 4, 1, 1, 1])
        self.assertEqual(liked(["down", "down"], rows, like(0, 1)), [1, 0, 1, 3, 4, 1])
        self.assertEqual(liked(["up", "down"], rows, like(0, 1)), [1, 0, 1, 1, 1, 1])
        self.assertEqual(liked(["down", "up"], rows, like(0, 1)), [-6])
        rows = [[-1, 0], [0, 3]]
        self.assertEqual(liked(["down", "up"], rows, like(0, 1)), [1, 3, 4, 1, 1, 1])

    def test_pieces_are_those_of_the_shares_left(self):
        rows = [[n * n, (15 - n) * (15 - n)] for n in range(16)]
        text = load(list_text(["down", "down"], rows))
        told = run(text, begin(0, 1), *[like(n, n + 1) for n in range(14, -1, -1)])
        self.assertEqual([answer[-1] for answer in told[1:]], list(range(16, 0, -1)))
        told = run(text, begin(0, 1), *[like(n + 1, n) for n in range(15)])
        self.assertEqual([answer[-1] for answer in told[1:]], list(range(16, 0, -1)))


if __name__ == "__main__":
    unittest.main()
