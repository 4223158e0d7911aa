import unittest

from bestwishes.wishes import answers
from tests.support import ASK, BEST, STILL, UNDO, WORKED, begin, bound, like, load, run

LINE = (
    (load(WORKED), [1, 2, 5]),
    (begin(0, 1), [1, 2]),
    (ASK, [1, 2, 2, 1]),
    (STILL, [3, 1, 2, 4, 0, 1, 1, 1]),
    (like(2, 1), [1, 0, 1, 3, 5, 1]),
    (ASK, [0, 1, 2]),
    (STILL, [3, 1, 2, 4, 0, 1, 3, 5]),
    (like(0, 2), [-6]),
    (UNDO, [5]),
    (bound(0, 0, 10), [3]),
    (BEST, [3, 0, 1, 4]),
    (ASK, [1, 2, 0, 1]),
)


class WorkedLine(unittest.TestCase):

    def test_call_by_call(self):
        for count in range(1, len(LINE) + 1):
            self.assertEqual(run(*[call for call, answer in LINE[:count]])[-1], LINE[count - 1][1], count)

    def test_as_one_list(self):
        calls = [number for call, answer in LINE for number in call]
        self.assertEqual(
            answers(calls),
            [3, 1, 2, 5, 2, 1, 2, 4, 1, 2, 2, 1, 8, 3, 1, 2, 4, 0, 1, 1, 1, 6, 1, 0, 1, 3, 5, 1, 3, 0, 1, 2,
             8, 3, 1, 2, 4, 0, 1, 3, 5, 1, -6, 1, 5, 1, 3, 4, 3, 0, 1, 4, 4, 1, 2, 0, 1],
        )


if __name__ == "__main__":
    unittest.main()
