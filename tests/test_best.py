import unittest

from tests.support import BEST, STILL, WORKED, begin, bound, last, like, list_text, load, run

UPS = ["up", "up"]


def best(ways, rows, *calls):
    return last(load(list_text(ways, rows)), *calls, BEST)


class Best(unittest.TestCase):

    def test_before_begin_and_behind_it(self):
        self.assertEqual(run(load(WORKED), BEST, begin(0, 1), BEST, like(2, 1), BEST)[1::2], [[4, 0, 1, 2, 4]] * 3)

    def test_worse_by_one_measure_each(self):
        self.assertEqual(best(UPS, [[1, 2], [2, 1]]), [2, 0, 1])

    def test_beaten(self):
        self.assertEqual(best(UPS, [[1, 1], [2, 2]]), [1, 1])
        self.assertEqual(best(UPS, [[2, 2], [1, 1]]), [1, 0])

    def test_beaten_by_one_measure_and_the_same_by_the_other(self):
        self.assertEqual(best(UPS, [[1, 2], [2, 2]]), [1, 1])
        self.assertEqual(best(UPS, [[2, 1], [2, 2]]), [1, 1])

    def test_the_same_by_all_measures(self):
        self.assertEqual(best(UPS, [[1, 2], [1, 2]]), [2, 0, 1])
        self.assertEqual(best(UPS, [[1, 2], [1, 2], [2, 2], [0, 9], [2, 2]]), [3, 2, 3, 4])
        self.assertEqual(best(["down"], [[0], ["-0"]]), [2, 0, 1])

    def test_by_all_measures_not_only_the_two_taken(self):
        text = load(list_text(["up"] * 3, [[1, 1, 9], [2, 2, 0], [1, 1, 8]]))
        self.assertEqual(run(text, begin(0, 1), STILL, BEST)[2:], [[1, 1, 0, 1, 1, 1], [2, 0, 1]])

    def test_an_item_that_is_best_for_no_share(self):
        text = load(list_text(UPS, [[0, 4], [4, 0], [1, 1]]))
        self.assertEqual(run(text, begin(0, 1), STILL, BEST)[2:], [[2, 0, 1, 0, 1, 1, 1], [3, 0, 1, 2]])

    def test_an_item_that_may_be_best_and_is_beaten(self):
        text = load(list_text(UPS, [[1, 4], [2, 4]]))
        self.assertEqual(run(text, begin(0, 1), STILL, BEST)[2:], [[2, 0, 1, 0, 1, 1, 1], [1, 1]])

    def test_up_and_down(self):
        rows = [[0, 4], [4, 0], [3, 3], [4, 4]]
        self.assertEqual(best(["up", "up"], rows), [1, 3])
        self.assertEqual(best(["down", "down"], rows), [3, 0, 1, 2])
        self.assertEqual(best(["up", "down"], rows), [1, 1])
        self.assertEqual(best(["down", "up"], rows), [1, 0])

    def test_values_below_0(self):
        self.assertEqual(best(["up", "down"], [[-3, -1], [-2, -1], [-2, -5], [-1, 0]]), [2, 2, 3])


class HowManyMeasures(unittest.TestCase):

    def test_one(self):
        self.assertEqual(best(["up"], [[3], [5], [5], [1]]), [2, 1, 2])
        self.assertEqual(best(["down"], [[3], [5], [5], [1]]), [1, 3])

    def test_four(self):
        ways = ["up", "down", "up", "down"]
        self.assertEqual(best(ways, [[1, 1, 1, 1], [1, 1, 1, 1]]), [2, 0, 1])
        for m, better in enumerate(([2, 1, 1, 1], [1, 0, 1, 1], [1, 1, 2, 1], [1, 1, 1, 0])):
            self.assertEqual(best(ways, [[1, 1, 1, 1], better]), [1, 1])
            worse_by_another = list(better)
            worse_by_another[(m + 1) % 4] += -5 if ways[(m + 1) % 4] == "up" else 5
            self.assertEqual(best(ways, [[1, 1, 1, 1], worse_by_another]), [2, 0, 1])

    def test_four_and_sixteen_items(self):
        rows = [[n % 2, n // 2 % 2, n // 4 % 2, n // 8] for n in range(16)]
        self.assertEqual(best(["up"] * 4, rows), [1, 15])
        self.assertEqual(best(["down"] * 4, rows), [1, 0])
        self.assertEqual(best(["up", "down", "up", "down"], rows), [1, 5])
        rows = [[n, 15 - n, n, 15 - n] for n in range(16)]
        self.assertEqual(best(["up"] * 4, rows), [16] + list(range(16)))


class Bounds(unittest.TestCase):

    def test_what_is_beaten_by_items_outside_alone_is_unbeaten(self):
        text = load(list_text(UPS, [[5, 5], [3, 3], [4, 4], [1, 1]]))
        told = run(text, BEST, bound(0, 0, 4), BEST, bound(1, 0, 3), BEST, bound(0, -1000, 1000), BEST,
                   bound(1, -1000, 1000), BEST)
        self.assertEqual(told[1::2], [[1, 0], [1, 2], [1, 1], [1, 1], [1, 0]])

    def test_an_unbeaten_item_outside_is_not_told(self):
        self.assertEqual(best(UPS, [[1, 4], [4, 1]], bound(1, 2, 5)), [1, 0])

    def test_no_item_within(self):
        self.assertEqual(best(UPS, [[1, 4], [4, 1]], bound(1, 2, 3)), [0])
        self.assertEqual(best(UPS, [[1, 4], [4, 1]], bound(1, 2, 3), begin(0, 1)), [0])

    def test_a_list_without_items(self):
        self.assertEqual(best(UPS, []), [0])
        self.assertEqual(best(["down"], []), [0])

    def test_asking_changes_nothing(self):
        self.assertEqual(run(load(WORKED), bound(0, 0, 10), BEST, BEST, bound(1, 4, 9), BEST)[1:],
                         [[3], [3, 0, 1, 4], [3, 0, 1, 4], [1], [1, 0]])


if __name__ == "__main__":
    unittest.main()
