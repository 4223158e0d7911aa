import unittest

from tests.support import ASK, BEST, STILL, UNDO, begin, bound, last, like, list_text, load, run

TEXT = load(list_text(["up", "up"], [[4, 0], [0, 4], [3, 3]]))
PROBES = [STILL, ASK, BEST]


def probed(*calls):
    """What still, ask and best answer behind the calls: the wishes as they show."""
    return run(TEXT, *calls, *PROBES)[-3:]


class NoChangeHeld(unittest.TestCase):

    def test_right_after_a_right_load(self):
        self.assertEqual(run(TEXT, UNDO, UNDO), [[1, 2, 3], [-8], [-8]])
        self.assertEqual(run(load("measures a up ;"), UNDO), [[1, 1, 0], [-8]])

    def test_after_as_many_undos_as_changes(self):
        told = run(TEXT, bound(0, 3, 4), begin(0, 1), like(2, 0), UNDO, UNDO, UNDO, UNDO, UNDO)
        self.assertEqual(told[4:], [[2], [2], [3], [-8], [-8]])

    def test_the_refusal_changes_nothing(self):
        told = run(TEXT, UNDO, bound(0, 3, 4), UNDO, UNDO, bound(0, 4, 4), UNDO, UNDO)
        self.assertEqual(told[1:], [[-8], [2], [3], [-8], [1], [3], [-8]])
        self.assertEqual(probed(begin(0, 1), UNDO, UNDO), probed())

    def test_a_right_load_leaves_nothing_to_undo(self):
        told = run(TEXT, bound(0, 4, 4), begin(0, 1), like(0, 1), TEXT, UNDO, STILL, BEST)
        self.assertEqual(told[5:], [[-8], [-5], [3, 0, 1, 2]])
        told = run(TEXT, bound(0, 4, 4), load("measures a up ;"), UNDO, bound(0, 1, 2), UNDO, UNDO)
        self.assertEqual(told[3:], [[-8], [0], [0], [-8]])

    def test_calls_that_only_tell_are_no_changes(self):
        told = run(TEXT, STILL, ASK, BEST, UNDO, begin(0, 1), STILL, ASK, BEST, UNDO, UNDO)
        self.assertEqual(told[4], [-8])
        self.assertEqual(told[9:], [[3], [-8]])


class EachChange(unittest.TestCase):

    def test_a_bound(self):
        for first, second in ((0, 1), (1, 0)):
            self.assertEqual(run(TEXT, begin(first, second), bound(0, 4, 4), UNDO)[2:], [[1], [3]])
            before = probed(begin(first, second), like(2, 0))
            self.assertEqual(probed(begin(first, second), like(2, 0), bound(0, 4, 4), UNDO), before)

    def test_bounds_one_behind_another(self):
        told = run(TEXT, bound(0, 3, 1000), bound(1, 3, 1000), bound(0, 4, 4), UNDO, BEST, UNDO, BEST, UNDO, BEST)
        self.assertEqual(told[1:], [[2], [1], [0], [1], [1, 2], [2], [2, 0, 2], [3], [3, 0, 1, 2]])

    def test_bounds_of_another_measure_stay_undone(self):
        told = run(TEXT, bound(0, 3, 1000), UNDO, bound(1, 3, 1000), BEST, UNDO)
        self.assertEqual(told[1:], [[2], [3], [2], [2, 1, 2], [3]])

    def test_a_bound_that_is_as_before(self):
        told = run(TEXT, bound(0, 3, 4), bound(0, 3, 4), UNDO, UNDO, UNDO)
        self.assertEqual(told[1:], [[2], [2], [2], [3], [-8]])

    def test_a_first_begin(self):
        told = run(TEXT, begin(0, 1), UNDO, STILL, ASK, like(0, 1), like(9, 9), BEST)
        self.assertEqual(told[2:], [[3], [-5], [-5], [-5], [-5], [3, 0, 1, 2]])

    def test_a_second_begin(self):
        before = [begin(0, 1), like(2, 1)]
        self.assertEqual(run(TEXT, *before, begin(1, 0), UNDO, STILL, ASK)[3:],
                         [[1, 3], [3], [3, 0, 1, 2, 1, 4, 1, 1], [1, 2, 2, 0]])
        self.assertEqual(probed(*before, begin(0, 1), UNDO), probed(*before))

    def test_a_begin_leaves_the_bounds(self):
        self.assertEqual(run(TEXT, bound(0, 3, 4), begin(0, 1), UNDO, BEST, STILL)[3:], [[2], [2, 0, 2], [-5]])

    def test_a_like(self):
        told = run(TEXT, begin(0, 1), like(2, 0), like(2, 1), UNDO, STILL, UNDO, STILL, UNDO, STILL)
        self.assertEqual(told[4:], [[3], [3, 0, 1, 2, 0, 1, 3, 4], [3], [3, 0, 1, 2, 0, 1, 1, 1], [3], [-5]])

    def test_a_like_that_leaves_all_shares(self):
        told = run(TEXT, begin(0, 1), like(0, 0), UNDO, STILL, UNDO, STILL, UNDO)
        self.assertEqual(told[3:], [[3], [3, 0, 1, 2, 0, 1, 1, 1], [3], [-5], [-8]])

    def test_a_like_counts_what_is_within_the_bounds(self):
        self.assertEqual(last(TEXT, begin(0, 1), bound(0, 3, 4), like(2, 0), UNDO), [2])
        self.assertEqual(last(TEXT, begin(0, 1), bound(0, 1, 2), like(2, 0), UNDO), [0])

    def test_after_it_like_goes_on_from_what_is_left_then(self):
        told = run(TEXT, begin(0, 1), like(1, 2), like(0, 2), UNDO, like(0, 2))
        self.assertEqual(told[2:], [[1, 0, 1, 1, 4, 1], [-6], [3], [1, 3, 4, 1, 1, 1]])


class NoChanges(unittest.TestCase):

    def test_refused_calls(self):
        refused = (bound(2, 0, 1), bound(0, 1, 0), begin(0, 0), begin(0, 2), like(0, 3), like(-1, 0), like(0, 2))
        told = run(TEXT, begin(0, 1), like(1, 2), *refused, UNDO, STILL, UNDO, UNDO)
        self.assertEqual(told[3:10], [[-3], [-4], [-3], [-3], [-2], [-2], [-6]])
        self.assertEqual(told[10:], [[3], [3, 0, 1, 2, 0, 1, 1, 1], [3], [-8]])

    def test_calls_refused_as_none_are_taken(self):
        self.assertEqual(run(TEXT, like(0, 1), STILL, ASK, UNDO)[1:], [[-5], [-5], [-5], [-8]])

    def test_a_load_with_a_fault(self):
        for wrong in ("", "!", " " * 5000, "measures a up, a up ;"):
            told = run(TEXT, bound(0, 3, 4), load(wrong), begin(0, 1), load(wrong), UNDO, STILL, BEST, UNDO, UNDO)
            self.assertEqual(told[5:], [[2], [-5], [2, 0, 2], [3], [-8]], wrong)


class ManyChanges(unittest.TestCase):
    """Each bound leaves another count of items, so that an undo shows which change it is of.

    A line's 40 calls have no room for a load, 20 changes and 20 undos: these lists are longer, so as to show the rest.
    """

    def setUp(self):
        self.text = load(list_text(["up"], [[n] for n in range(16)]))

    def changes(self, count):
        """So many changes and as many wishes told, first those before any change."""
        highs = [n % 15 for n in range(count)]
        return [bound(0, 0, high) for high in highs], [16] + [high + 1 for high in highs]

    def undone(self, count, undos):
        calls, within = self.changes(count)
        told = run(self.text, *calls, *[UNDO] * undos)
        self.assertEqual(told[1:1 + count], [[each] for each in within[1:]])
        return told[1 + count:], [[each] for each in within[::-1][1:]]

    def test_19_changes_and_all_undone(self):
        told, before = self.undone(19, 20)
        self.assertEqual(told, before + [[-8]])

    def test_20_changes_and_20_undos(self):
        told, before = self.undone(20, 21)
        self.assertEqual(len(before), 20)
        self.assertEqual(told, before + [[-8]])

    def test_21_changes_and_more(self):
        for count in (21, 22, 35, 60):
            told, before = self.undone(count, 22)
            self.assertEqual(told, before[:20] + [[-8], [-8]], count)

    def test_the_oldest_are_lost_for_good(self):
        calls, within = self.changes(25)
        told = run(self.text, *calls, *[UNDO] * 21, bound(0, 0, 14), UNDO, UNDO)
        self.assertEqual(told[-5:], [[within[5]], [-8], [15], [within[5]], [-8]])

    def test_as_many_as_a_line_has_room_for(self):
        told, before = self.undone(21, 18)
        self.assertEqual(told, before[:18])

    def test_changes_of_all_kinds(self):
        calls = [bound(0, 3, 4), begin(0, 1), like(2, 0), like(2, 2), begin(1, 0), like(0, 2), bound(0, -9, 9)] * 3
        for undos in range(21):
            self.assertEqual(probed(*calls, *[UNDO] * undos), probed(*calls[:len(calls) - undos]), undos)
        self.assertEqual(last(TEXT, *calls, *[UNDO] * 21), [-8])
        self.assertEqual(probed(*calls, *[UNDO] * 21), probed(calls[0]))


class ChangesAfterAnUndo(unittest.TestCase):

    def test_what_is_undone_is_no_more(self):
        told = run(TEXT, bound(0, 3, 4), UNDO, UNDO, BEST)
        self.assertEqual(told[1:], [[2], [3], [-8], [3, 0, 1, 2]])

    def test_another_change_takes_its_place(self):
        told = run(TEXT, bound(0, 3, 4), bound(0, 4, 4), UNDO, bound(1, 3, 4), UNDO, UNDO, UNDO)
        self.assertEqual(told[1:], [[2], [1], [2], [1], [2], [3], [-8]])

    def test_likes_and_begins(self):
        calls = [begin(0, 1), like(2, 0), UNDO, like(2, 1), UNDO, UNDO, begin(1, 0), like(1, 2)]
        self.assertEqual(probed(*calls), probed(begin(1, 0), like(1, 2)))
        self.assertEqual(probed(*calls, UNDO), probed(begin(1, 0)))
        self.assertEqual(run(TEXT, *calls, UNDO, UNDO, UNDO)[-3:], [[3], [3], [-8]])

    def test_room_for_20_again(self):
        calls = [bound(0, n, 1000) for n in range(20)] + [UNDO] * 5 + [bound(1, n, 1000) for n in range(5)]
        told = run(TEXT, *calls, *[UNDO] * 21)
        self.assertEqual(told[-3:], [[3], [3], [-8]])


if __name__ == "__main__":
    unittest.main()
