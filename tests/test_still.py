import unittest

from tests.support import STILL, begin, bound, last, like, list_text, load, run

UPS = ["up", "up"]
THREE = load(list_text(UPS, [[4, 0], [0, 4], [3, 3]]))


def still(ways, rows, *calls):
    return last(load(list_text(ways, rows)), begin(0, 1), *calls, STILL)


class Refusals(unittest.TestCase):

    def test_none_taken(self):
        self.assertEqual(run(THREE, STILL, bound(0, 0, 3), STILL)[1:], [[-5], [2], [-5]])
        self.assertEqual(last(load("measures a up ; item x : 1 ;"), STILL), [-5])

    def test_none_taken_by_a_refused_begin(self):
        self.assertEqual(run(THREE, begin(0, 0), STILL)[1:], [[-3], [-5]])

    def test_none_taken_after_another_load(self):
        self.assertEqual(run(THREE, begin(0, 1), THREE, STILL)[3], [-5])


class SharesLeft(unittest.TestCase):

    def test_all(self):
        self.assertEqual(last(THREE, begin(0, 1), STILL), [3, 0, 1, 2, 0, 1, 1, 1])

    def test_a_part(self):
        self.assertEqual(last(THREE, begin(0, 1), like(0, 1), STILL), [2, 0, 2, 1, 2, 1, 1])
        self.assertEqual(last(THREE, begin(0, 1), like(1, 0), STILL), [2, 1, 2, 0, 1, 1, 2])

    def test_just_one(self):
        self.assertEqual(last(THREE, begin(0, 1), like(1, 2), like(2, 1), STILL), [2, 1, 2, 1, 4, 1, 4])
        self.assertEqual(last(THREE, begin(0, 1), like(0, 1), like(1, 0), STILL), [1, 2, 1, 2, 1, 2])

    def test_they_are_the_first_measures(self):
        text = load(list_text(UPS, [[4, 0], [0, 1]]))
        self.assertEqual(last(text, begin(0, 1), like(0, 1), STILL), [2, 0, 1, 1, 5, 1, 1])
        self.assertEqual(last(text, begin(1, 0), like(0, 1), STILL), [2, 0, 1, 0, 1, 4, 5])

    def test_asking_changes_nothing(self):
        told = run(THREE, begin(0, 1), like(2, 0), STILL, STILL, like(2, 2))
        self.assertEqual(told[3:], [[3, 0, 1, 2, 0, 1, 3, 4]] * 2 + [[1, 0, 1, 3, 4, 2]])


class MayBeBest(unittest.TestCase):

    def test_the_same_by_both_measures_taken(self):
        ways = ["up", "up", "down"]
        rows = [[2, 3, 1], [0, 0, 0], [2, 3, 9], [2, 3, 1]]
        self.assertEqual(still(ways, rows), [3, 0, 2, 3, 0, 1, 1, 1])
        rows = [[0, 4, 1], [3, 3, 1], [4, 0, 1], [3, 3, 2], [4, 0, 5]]
        self.assertEqual(still(ways, rows), [5, 0, 1, 2, 3, 4, 0, 1, 1, 1])
        self.assertEqual(still(ways, rows, like(2, 0)), [4, 1, 2, 3, 4, 1, 2, 1, 1])
        self.assertEqual(still(ways, rows, like(2, 0), like(0, 2)), [2, 1, 3, 1, 2, 1, 2])

    def test_three_for_one_same_share(self):
        for rows in ([[0, 4], [2, 2], [4, 0]], [[2, 2], [0, 4], [4, 0]], [[4, 0], [0, 4], [2, 2]]):
            self.assertEqual(still(UPS, rows), [3, 0, 1, 2, 0, 1, 1, 1])

    def test_three_for_one_same_share_that_is_left_alone(self):
        self.assertEqual(still(UPS, [[0, 4], [2, 2], [4, 0]], like(1, 0), like(0, 1)), [3, 0, 1, 2, 1, 2, 1, 2])

    def test_three_for_one_same_share_that_is_not_left(self):
        text = load(list_text(["up"] * 3, [[0, 4, 0], [2, 2, 0], [4, 0, 0], [3, 3, 9]]))
        told = run(text, bound(2, 0, 0), begin(0, 1), like(2, 3), STILL, begin(0, 1), like(0, 3), STILL)
        self.assertEqual(told[4], [1, 2, 3, 4, 1, 1])
        self.assertEqual(told[7], [1, 0, 0, 1, 1, 4])

    def test_best_for_the_share_0_alone(self):
        self.assertEqual(still(UPS, [[1, 4], [2, 4]]), [2, 0, 1, 0, 1, 1, 1])
        self.assertEqual(still(UPS, [[2, 4], [1, 4]]), [2, 0, 1, 0, 1, 1, 1])

    def test_best_for_the_share_1_alone(self):
        self.assertEqual(still(UPS, [[4, 1], [4, 2]]), [2, 0, 1, 0, 1, 1, 1])
        self.assertEqual(still(UPS, [[4, 2], [4, 1]]), [2, 0, 1, 0, 1, 1, 1])

    def test_best_for_the_least_share_left_alone(self):
        self.assertEqual(run(THREE, begin(0, 1), like(2, 1), STILL)[2:],
                         [[1, 1, 4, 1, 1, 2], [3, 0, 1, 2, 1, 4, 1, 1]])

    def test_best_for_the_greatest_share_left_alone(self):
        self.assertEqual(run(THREE, begin(0, 1), like(2, 0), STILL)[2:],
                         [[1, 0, 1, 3, 4, 2], [3, 0, 1, 2, 0, 1, 3, 4]])

    def test_best_for_either_end_alone(self):
        self.assertEqual(run(THREE, begin(0, 1), like(2, 1), like(2, 0), STILL)[3:],
                         [[1, 1, 4, 3, 4, 1], [3, 0, 1, 2, 1, 4, 3, 4]])

    def test_never_best(self):
        self.assertEqual(still(UPS, [[0, 4], [4, 0], [1, 1]]), [2, 0, 1, 0, 1, 1, 1])
        self.assertEqual(still(UPS, [[0, 4], [5, 5], [4, 0]]), [1, 1, 0, 1, 1, 1])

    def test_up_and_down(self):
        rows = [[0, 4], [4, 0], [3, 3]]
        self.assertEqual(still(["up", "up"], rows), [3, 0, 1, 2, 0, 1, 1, 1])
        self.assertEqual(still(["down", "down"], rows), [2, 0, 1, 0, 1, 1, 1])
        self.assertEqual(still(["up", "down"], rows), [1, 1, 0, 1, 1, 1])
        self.assertEqual(still(["down", "up"], rows), [1, 0, 0, 1, 1, 1])

    def test_sixteen(self):
        rows = [[n * n, (15 - n) * (15 - n)] for n in range(16)]
        self.assertEqual(still(["down", "down"], rows), [16] + list(range(16)) + [0, 1, 1, 1])
        self.assertEqual(still(["up", "up"], rows), [2, 0, 15, 0, 1, 1, 1])


class Bounds(unittest.TestCase):

    def test_an_item_outside(self):
        self.assertEqual(run(THREE, bound(0, 0, 3), begin(0, 1), STILL)[3], [2, 1, 2, 0, 1, 1, 1])
        self.assertEqual(run(THREE, begin(0, 1), bound(0, 0, 3), STILL)[3], [2, 1, 2, 0, 1, 1, 1])

    def test_what_an_item_outside_has_does_not_count(self):
        text = load(list_text(UPS, [[5, 5], [1, 4], [4, 1]]))
        self.assertEqual(run(text, begin(0, 1), STILL, bound(0, 0, 4), STILL)[2:],
                         [[1, 0, 0, 1, 1, 1], [2], [2, 1, 2, 0, 1, 1, 1]])

    def test_no_item_within(self):
        told = run(THREE, bound(0, 1, 2), begin(0, 1), STILL, like(2, 0), STILL, like(0, 2), STILL)
        self.assertEqual(told[3::2], [[0, 0, 1, 1, 1], [0, 0, 1, 3, 4], [0, 3, 4, 3, 4]])

    def test_a_list_without_items(self):
        self.assertEqual(still(UPS, []), [0, 0, 1, 1, 1])


if __name__ == "__main__":
    unittest.main()
