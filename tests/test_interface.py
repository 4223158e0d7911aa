import inspect
import unittest

from bestwishes import wishes
from bestwishes.wishes import answers
from tests.support import ASK, BEST, STILL, UNDO, WORKED, begin, bound, like, load, run

CHANGES = load(WORKED) + begin(0, 1) + like(2, 1) + bound(0, 0, 10) + load("!") + like(9, 9)


class NoChange(list):
    """A list that can be read, but not changed."""

    def refuse(self, *given):
        raise AssertionError("the list was changed")

    append = extend = insert = pop = remove = clear = sort = reverse = refuse
    __setitem__ = __delitem__ = __iadd__ = __imul__ = refuse


class Interface(unittest.TestCase):

    def test_its_name_and_argument(self):
        self.assertEqual(list(inspect.signature(wishes.answers).parameters), ["calls"])
        self.assertEqual(wishes.answers.__module__, "bestwishes.wishes")

    def test_whole_numbers_in_a_list(self):
        told = answers(CHANGES)
        self.assertIs(type(told), list)
        self.assertEqual({type(number) for number in told}, {int})

    def test_no_list(self):
        for call in (bound(0, 0, 1), begin(0, 1), like(0, 1), STILL, ASK, BEST, UNDO):
            self.assertEqual(run(call), [[-1]], call)

    def test_no_list_comes_before_all_else(self):
        far = 10 ** 18
        for call in (bound(far, far, -far), begin(-1, -1), like(-far, far)):
            self.assertEqual(run(call, load(""), call), [[-1], [0, 3, 0], [-1]], call)

    def test_calls_without_numbers_are_parted(self):
        told = run(STILL, ASK, bound(4, 5, 6), BEST, UNDO, begin(7, 7), load(WORKED), like(4, 5))
        self.assertEqual(told, [[-1]] * 6 + [[1, 2, 5], [-5]])
        for call in (STILL, ASK, BEST, UNDO):
            self.assertEqual(run(call, load(WORKED)), [[-1], [1, 2, 5]], call)

    def test_an_empty_row(self):
        self.assertEqual(answers([0, 0]), [3, 0, 3, 0])
        self.assertEqual(answers([0, 0, 0, 0]), [3, 0, 3, 0, 3, 0, 3, 0])

    def test_forty_calls(self):
        told = run(load(WORKED), *[begin(0, 1), like(2, 1), bound(0, 0, 12)] * 13)
        self.assertEqual(told, [[1, 2, 5]] + [[1, 2], [1, 0, 1, 3, 5, 1], [5]] * 13)

    def test_the_longest_rows(self):
        self.assertEqual(run(load([255] * 8192), load([35] * 8192)), [[0, 1, 4096]] * 2)
        self.assertEqual(run(load([35] * 4096), load([32] * 4096), load([45] * 4096), load([65] * 4096)),
                         [[0, 3, 4096], [0, 3, 4096], [0, 3, 0], [0, 2, 0]])


class NothingKept(unittest.TestCase):

    def test_what_is_handed_in_is_as_it_was(self):
        calls = list(CHANGES)
        answers(calls)
        self.assertEqual(calls, CHANGES)

    def test_not_changed_for_a_while_either(self):
        self.assertEqual(answers(NoChange(CHANGES)), answers(CHANGES))

    def test_two_times_have_nothing_to_do_with_each_other(self):
        first = answers(CHANGES)
        self.assertEqual(run(bound(0, 0, 1), like(0, 1)), [[-1], [-1]])
        self.assertEqual(run(load(WORKED), like(0, 1), bound(1, 0, 1000)), [[1, 2, 5], [-5], [5]])
        self.assertEqual(answers(CHANGES), first)

    def test_what_is_given_back_is_new(self):
        first = answers(CHANGES)
        copy = list(first)
        first.clear()
        self.assertEqual(answers(CHANGES), copy)


if __name__ == "__main__":
    unittest.main()
