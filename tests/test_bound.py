import unittest

from tests.support import begin, bound, last, like, list_text, load, run

FAR = 10 ** 18
ROWS = [[-1000, 5], [0, 5], [1000, -5], [7, 8]]
TEXT = load(list_text(["up", "down"], ROWS))


class Bound(unittest.TestCase):

    def test_values_at_the_bounds_are_within(self):
        for lo, hi, count in ((0, 7, 2), (1, 7, 1), (0, 6, 1), (1, 6, 0), (-1000, 0, 2), (7, 1000, 2)):
            self.assertEqual(last(TEXT, bound(0, lo, hi)), [count], (lo, hi))

    def test_the_edges(self):
        self.assertEqual(last(TEXT, bound(0, -1000, 1000)), [4])
        self.assertEqual(last(TEXT, bound(0, -999, 999)), [2])
        self.assertEqual(last(TEXT, bound(0, -1000, -1000)), [1])
        self.assertEqual(last(TEXT, bound(0, 1000, 1000)), [1])

    def test_lo_equal_to_hi(self):
        self.assertEqual(run(TEXT, bound(0, 7, 7), bound(0, 8, 8))[1:], [[1], [0]])

    def test_values_count_as_told_up_or_down(self):
        self.assertEqual(last(TEXT, bound(1, 5, 8)), [3])

    def test_bounds_of_all_measures_hold_together(self):
        told = run(TEXT, bound(0, 0, 1000), bound(1, 5, 5), bound(0, -1000, 1000), bound(1, -1000, 1000))
        self.assertEqual(told[1:], [[3], [1], [2], [4]])

    def test_bounds_may_grow_wider_again(self):
        self.assertEqual(run(TEXT, bound(0, 7, 7), bound(0, 0, 7))[1:], [[1], [2]])

    def test_without_items(self):
        self.assertEqual(last(load("measures a up ;"), bound(0, 0, 1)), [0])


class Refusals(unittest.TestCase):

    def test_no_such_measure(self):
        for m in (-1, 2, 3, FAR, -FAR):
            self.assertEqual(last(TEXT, bound(m, 0, 1)), [-3], m)

    def test_wrong_bounds(self):
        for lo, hi in ((-1001, 0), (0, 1001), (1, 0), (-FAR, 0), (0, FAR), (FAR, -FAR), (1000, -1000),
                       (-FAR, FAR), (1001, 1001), (-1001, -1001)):
            self.assertEqual(last(TEXT, bound(0, lo, hi)), [-4], (lo, hi))

    def test_no_such_measure_comes_first(self):
        self.assertEqual(last(TEXT, bound(2, 1, 0)), [-3])
        self.assertEqual(last(TEXT, bound(-1, -FAR, FAR)), [-3])

    def test_a_refusal_changes_nothing(self):
        told = run(TEXT, bound(0, 0, 7), bound(0, 7, 0), bound(0, -1001, 1000), bound(2, 0, 0),
                   bound(1, -1000, 1000))
        self.assertEqual(told[1:], [[2], [-4], [-4], [-3], [2]])


class WhatStays(unittest.TestCase):

    def test_bounds_stay_through_begin_and_like(self):
        told = run(TEXT, bound(0, 0, 7), begin(0, 1), like(1, 3), like(3, 1), bound(1, -1000, 1000))
        self.assertEqual(told[1], [2])
        self.assertEqual(told[5], [2])

    def test_the_pieces_of_begin_and_like_keep_to_the_bounds(self):
        text = load(list_text(["up", "up"], [[4, 0], [0, 4], [3, 3]]))
        told = run(text, bound(0, 0, 3), begin(0, 1), like(2, 2), bound(1, 0, 3), like(2, 2), begin(1, 0))
        self.assertEqual([answer[-1] for answer in told[1:]], [2, 2, 2, 1, 1, 1])

    def test_shares_left_stay_through_bound(self):
        text = load(list_text(["up", "up"], [[4, 0], [0, 4], [3, 3]]))
        told = run(text, begin(0, 1), like(2, 0), bound(0, 0, 0), like(2, 2), bound(1, 0, 0), like(2, 2))
        self.assertEqual(told[2:], [[1, 0, 1, 3, 4, 2], [1], [1, 0, 1, 3, 4, 1], [0], [1, 0, 1, 3, 4, 0]])

    def test_the_measures_taken_stay_through_bound(self):
        text = load(list_text(["up", "up", "down"], [[4, 0, 1], [0, 2, 3]]))
        told = run(text, begin(1, 2), bound(0, 0, 1), like(1, 0))
        self.assertEqual(told[3], [1, 1, 2, 1, 1, 1])


if __name__ == "__main__":
    unittest.main()
