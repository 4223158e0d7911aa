import unittest

from tests.support import begin, bound, last, like, list_text, load, run

FAR = 10 ** 18


def pieces(ways, rows, m=0, k=1):
    answer = last(load(list_text(ways, rows)), begin(m, k))
    assert len(answer) == 2 and answer[0] == 1, answer
    return answer[1]


class Refusals(unittest.TestCase):

    def test_no_such_measure(self):
        text = load(list_text(["up", "down", "up"], [[1, 2, 3]]))
        for wrong in (-1, 3, 4, FAR, -FAR):
            self.assertEqual(last(text, begin(wrong, 0)), [-3], wrong)
            self.assertEqual(last(text, begin(0, wrong)), [-3], wrong)
            self.assertEqual(last(text, begin(wrong, wrong)), [-3], wrong)

    def test_the_same_measure_twice(self):
        text = load(list_text(["up", "down", "up"], [[1, 2, 3]]))
        for m in range(3):
            self.assertEqual(last(text, begin(m, m)), [-3])

    def test_with_one_measure(self):
        self.assertEqual(last(load("measures a up ; item x : 1 ;"), begin(0, 0)), [-3])
        self.assertEqual(last(load("measures a up ; item x : 1 ;"), begin(0, 1)), [-3])

    def test_a_refusal_changes_nothing(self):
        text = load(list_text(["up", "up"], [[4, 0], [0, 4], [3, 3]]))
        told = run(text, begin(0, 0), like(0, 0), begin(0, 1), like(2, 0), begin(1, 1), begin(2, 0), like(2, 2))
        self.assertEqual(told[1:3], [[-3], [-5]])
        self.assertEqual(told[5:], [[-3], [-3], [1, 0, 1, 3, 4, 2]])


class Pieces(unittest.TestCase):

    def test_no_item(self):
        self.assertEqual(pieces(["up", "up"], []), 0)

    def test_no_item_within_the_bounds(self):
        text = load(list_text(["up", "up"], [[1, 2], [2, 1]]))
        self.assertEqual(last(text, bound(0, 5, 6), begin(0, 1)), [1, 0])

    def test_one_item(self):
        self.assertEqual(pieces(["up", "up"], [[1, 2]]), 1)

    def test_one_item_within_the_bounds(self):
        text = load(list_text(["up", "up"], [[1, 2], [2, 1]]))
        self.assertEqual(last(text, bound(0, 2, 2), begin(0, 1)), [1, 1])

    def test_several(self):
        self.assertEqual(pieces(["up", "up"], [[0, 4], [4, 0]]), 2)
        self.assertEqual(pieces(["up", "up"], [[0, 4], [4, 0], [3, 3]]), 3)
        self.assertEqual(pieces(["up", "up"], [[0, 4], [4, 0], [1, 1]]), 2)
        self.assertEqual(pieces(["up", "up"], [[0, 4], [4, 0], [5, 5]]), 1)

    def test_sixteen(self):
        rows = [[n * n, (15 - n) * (15 - n)] for n in range(16)]
        self.assertEqual(pieces(["down", "down"], rows), 16)
        self.assertEqual(pieces(["down", "down"], rows[::-1]), 16)
        self.assertEqual(pieces(["up", "up"], rows), 2)

    def test_the_same_by_both_measures(self):
        self.assertEqual(pieces(["up", "up"], [[2, 3], [2, 3], [2, 3]]), 1)
        self.assertEqual(pieces(["up", "up"], [[0, 4], [4, 0], [0, 4], [4, 0]]), 2)
        self.assertEqual(pieces(["up", "up", "up"], [[0, 4, 1], [0, 4, 2], [3, 3, 3], [3, 3, 4]]), 2)

    def test_three_that_are_best_for_one_same_share(self):
        for rows in ([[0, 4], [2, 2], [4, 0]], [[2, 2], [0, 4], [4, 0]], [[4, 0], [0, 4], [2, 2]]):
            self.assertEqual(pieces(["up", "up"], rows), 2)

    def test_three_for_one_share_and_another_piece(self):
        self.assertEqual(pieces(["up", "up"], [[0, 6], [2, 4], [4, 2], [6, -6]]), 3)

    def test_the_same_by_one_measure(self):
        # For the share 0 both are best, for all above it just one is; likewise for the share 1.
        self.assertEqual(pieces(["up", "up"], [[1, 4], [2, 4]]), 1)
        self.assertEqual(pieces(["up", "up"], [[4, 1], [4, 2]]), 1)

    def test_up_and_down(self):
        rows = [[0, 4], [4, 0], [3, 3]]
        self.assertEqual(pieces(["up", "up"], rows), 3)
        self.assertEqual(pieces(["down", "down"], rows), 2)
        self.assertEqual(pieces(["up", "down"], rows), 1)
        self.assertEqual(pieces(["down", "up"], rows), 1)

    def test_just_the_two_taken_count(self):
        rows = [[0, 9, 4], [4, 1, 0], [3, 5, 3]]
        ways = ["up", "up", "up"]
        self.assertEqual([pieces(ways, rows, m, k) for m, k in ((0, 2), (2, 0), (0, 1), (1, 2))], [3, 3, 3, 1])

    def test_far_values(self):
        self.assertEqual(pieces(["up", "up"], [[-1000, 1000], [1000, -1000], [1, 0], [0, 1]]), 4)


class BeginAgain(unittest.TestCase):

    def test_all_shares_are_left_again(self):
        text = load(list_text(["up", "up"], [[4, 0], [0, 4], [3, 3]]))
        told = run(text, begin(0, 1), like(0, 2), begin(0, 1), like(1, 1), begin(1, 0), like(1, 1))
        self.assertEqual(told[2:], [[1, 3, 4, 1, 1, 1], [1, 3], [1, 0, 1, 1, 1, 3], [1, 3], [1, 0, 1, 1, 1, 3]])

    def test_the_share_is_the_first_ones(self):
        text = load(list_text(["up", "up"], [[4, 0], [0, 1]]))
        self.assertEqual(last(text, begin(0, 1), like(0, 1)), [1, 1, 5, 1, 1, 1])
        self.assertEqual(last(text, begin(1, 0), like(0, 1)), [1, 0, 1, 4, 5, 1])


if __name__ == "__main__":
    unittest.main()
