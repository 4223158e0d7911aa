import unittest

from bestwishes.wishes import answers
from tests.support import WORKED, begin, bound, like, load, run


class WorkedLine(unittest.TestCase):

    def test_as_far_as_it_goes(self):
        self.assertEqual(
            run(load(WORKED), begin(0, 1), like(2, 1), like(0, 2), bound(0, 0, 10)),
            [[1, 2, 5], [1, 2], [1, 0, 1, 3, 5, 1], [-6], [3]],
        )

    def test_as_one_list(self):
        calls = load(WORKED) + begin(0, 1) + like(2, 1) + like(0, 2) + bound(0, 0, 10)
        self.assertEqual(
            answers(calls),
            [3, 1, 2, 5, 2, 1, 2, 6, 1, 0, 1, 3, 5, 1, 1, -6, 1, 3],
        )

    def test_the_pieces_at_its_end(self):
        # There its ask tells 2 pieces, of a and b: the liking is undone, the bounds are in force.
        self.assertEqual(run(load(WORKED), begin(0, 1), bound(0, 0, 10), like(0, 0))[2:],
                         [[3], [1, 0, 1, 1, 1, 2]])


if __name__ == "__main__":
    unittest.main()
