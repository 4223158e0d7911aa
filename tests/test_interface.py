import inspect
import unittest

from bestwishes import wishes
from bestwishes.wishes import answers
from tests.support import ASK, BEST, STILL, UNDO, WORKED, begin, bound, like, list_text, load, run

CHANGES = (
    load(WORKED) + begin(0, 1) + like(2, 1) + bound(0, 0, 10) + load("!") + like(9, 9)
    + STILL + ASK + BEST + UNDO + STILL + ASK + BEST + begin(1, 0)
)


class NoChange(list):
    """A list that can be read, but not changed."""

    def refuse(self, *given):
        raise AssertionError("the list was changed")

    append = extend = insert = pop = remove = clear = sort = reverse = refuse
    __setitem__ = __delitem__ = __iadd__ = __imul__ = refuse


class Interface(unittest.TestCase):

    def test_its_name_and_argument(self):
        self.assertEqual(list(inspect.signature(wishes.answers).parameters), ["calls"])
        self.assertEqual(wishes.answers.__module__, "bestwishes.wishes")

    def test_whole_numbers_in_a_list(self):
        told = answers(CHANGES)
        self.assertIs(type(told), list)
        self.assertEqual({type(number) for number in told}, {int})

    def test_no_list(self):
        for call in (bound(0, 0, 1), begin(0, 1), like(0, 1), STILL, ASK, BEST, UNDO):
            self.assertEqual(run(call), [[-1]], call)

    def test_no_list_behind_a_load_with_a_fault(self):
        for wrong, fault in (("", [0, 3, 0]), ("!", [0, 2, 0]), (" " * 4097, [0, 1, 4096]),
                             ("measures a up, a up ;", [0, 5, 15])):
            for call in (bound(0, 0, 1), begin(0, 1), like(0, 1), STILL, ASK, BEST, UNDO):
                self.assertEqual(run(load(wrong), call), [fault, [-1]], call)

    def test_no_list_comes_before_all_else(self):
        far = 10 ** 18
        for call in (bound(far, far, -far), begin(-1, -1), like(-far, far)):
            self.assertEqual(run(call, load(""), call), [[-1], [0, 3, 0], [-1]], call)

    def test_each_call_has_its_answer(self):
        told = run(load(WORKED), bound(0, 0, 12), begin(0, 1), like(2, 1), STILL, ASK, BEST, UNDO)
        self.assertEqual(told, [[1, 2, 5], [5], [1, 2], [1, 0, 1, 3, 5, 1], [3, 1, 2, 4, 0, 1, 3, 5], [0, 1, 2],
                                [4, 0, 1, 2, 4], [5]])

    def test_refusals_alone_are_below_0(self):
        told = run(load(list_text(["down", "up"], [[-1000, -1000], [1000, 1000]])), bound(0, -1000, -1), begin(0, 1),
                   bound(0, -1000, 1000), like(0, 1), STILL, ASK, BEST, like(1, 0), STILL, ASK, UNDO, UNDO, UNDO)
        self.assertEqual([answer for answer in told if min(answer) < 0], [])

    def test_calls_without_numbers_are_parted(self):
        told = run(STILL, ASK, bound(4, 5, 6), BEST, UNDO, begin(7, 7), load(WORKED), like(4, 5))
        self.assertEqual(told, [[-1]] * 6 + [[1, 2, 5], [-5]])
        for call in (STILL, ASK, BEST, UNDO):
            self.assertEqual(run(call, load(WORKED)), [[-1], [1, 2, 5]], call)

    def test_an_empty_row(self):
        self.assertEqual(answers([0, 0]), [3, 0, 3, 0])
        self.assertEqual(answers([0, 0, 0, 0]), [3, 0, 3, 0, 3, 0, 3, 0])

    def test_forty_calls(self):
        told = run(load(WORKED), *[begin(0, 1), like(2, 1), bound(0, 0, 12)] * 13)
        self.assertEqual(told, [[1, 2, 5]] + [[1, 2], [1, 0, 1, 3, 5, 1], [5]] * 13)

    def test_forty_calls_of_all_kinds(self):
        around = [begin(0, 1), ASK, like(2, 1), STILL, bound(0, 0, 10), BEST, UNDO, UNDO, UNDO, load("")]
        told = run(load(WORKED), *around * 3, *around[:9])
        once = [[1, 2], [1, 2, 2, 1], [1, 0, 1, 3, 5, 1], [3, 1, 2, 4, 0, 1, 3, 5], [3], [3, 0, 1, 4],
                [5], [5], [5], [0, 3, 0]]
        self.assertEqual(len(told), 40)
        self.assertEqual(told, [[1, 2, 5]] + once * 3 + once[:9])

    def test_forty_refusals(self):
        self.assertEqual(run(*[STILL, ASK, BEST, UNDO] * 10), [[-1]] * 40)

    def test_sixteen_items_and_four_measures(self):
        rows = [[n * n, (15 - n) ** 2, n, 1000 - n] for n in range(16)]
        told = run(load(list_text(["down", "down", "up", "up"], rows)), BEST, begin(0, 1), ASK, STILL, like(7, 8), ASK,
                   begin(2, 3), ASK, STILL, like(15, 0), STILL, ASK, like(0, 15), STILL, ASK, bound(0, 1, 196), BEST,
                   ASK, STILL, UNDO, UNDO, UNDO, UNDO, STILL, UNDO, UNDO, UNDO)
        every = [16] + list(range(16))
        self.assertEqual(told[:7], [[1, 4, 16], every, [1, 16], [4, 16, 8, 7], every + [0, 1, 1, 1],
                                    [1, 1, 2, 1, 1, 8], [3, 8, 4, 3]])
        # By the last two all have as much for 1/2, and there just the first and the last one can be best else.
        self.assertEqual(told[7:16], [[1, 2], [1, 2, 0, 15], every + [0, 1, 1, 1], [1, 1, 2, 1, 1, 1],
                                      every + [1, 2, 1, 1], [0, 1, 15], [1, 1, 2, 1, 2, 1], every + [1, 2, 1, 2],
                                      [0, 1, 0]])
        self.assertEqual(told[16:20], [[14], [14] + list(range(1, 15)), [0, 1, 1],
                                       [14] + list(range(1, 15)) + [1, 2, 1, 2]])
        self.assertEqual(told[20:], [[16], [16], [16], [16], [9] + list(range(9)) + [1, 2, 1, 1],
                                     [16], [16], [-8]])

    def test_two_of_the_longest_rows_between_other_calls(self):
        before = [load(WORKED), begin(0, 1), like(2, 1)]
        behind = [STILL, ASK, BEST, UNDO, UNDO, UNDO]
        calls = before + [load([32] * 8192), load(list(range(256)) * 32)] + behind
        self.assertLessEqual(sum(len(call) for call in calls), 17000)
        told = run(*calls)
        self.assertEqual(told[3:5], [[0, 1, 4096]] * 2)
        self.assertEqual(told[5:], [[3, 1, 2, 4, 0, 1, 3, 5], [0, 1, 2], [4, 0, 1, 2, 4], [5], [5], [-8]])

    def test_the_longest_rows(self):
        self.assertEqual(run(load([255] * 8192), load([35] * 8192)), [[0, 1, 4096]] * 2)
        self.assertEqual(run(load([35] * 4096), load([32] * 4096), load([45] * 4096), load([65] * 4096)),
                         [[0, 3, 4096], [0, 3, 4096], [0, 3, 0], [0, 2, 0]])


class NothingKept(unittest.TestCase):

    def test_what_is_handed_in_is_as_it_was(self):
        calls = list(CHANGES)
        answers(calls)
        self.assertEqual(calls, CHANGES)

    def test_not_changed_for_a_while_either(self):
        self.assertEqual(answers(NoChange(CHANGES)), answers(CHANGES))

    def test_two_times_have_nothing_to_do_with_each_other(self):
        first = answers(CHANGES)
        self.assertEqual(run(bound(0, 0, 1), like(0, 1), STILL, ASK, BEST, UNDO), [[-1]] * 6)
        self.assertEqual(run(load(WORKED), UNDO, STILL, ASK, BEST), [[1, 2, 5], [-8], [-5], [-5], [4, 0, 1, 2, 4]])
        self.assertEqual(run(load(WORKED), like(0, 1), bound(1, 0, 1000)), [[1, 2, 5], [-5], [5]])
        self.assertEqual(answers(CHANGES), first)

    def test_what_is_given_back_is_new(self):
        first = answers(CHANGES)
        copy = list(first)
        first.clear()
        self.assertEqual(answers(CHANGES), copy)


if __name__ == "__main__":
    unittest.main()
