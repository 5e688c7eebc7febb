"""All calls over trees out of which states have been deleted."""

import unittest

from tests.calls import (CLOSE_GROUP, GET_TEXT, LEAVES, OPEN_GROUP, ORIGINS, REDO, UNDO, ago, change, earlier, forget,
                         go_to, insert, later, path, revert, run, run_after, set_kept, start, state_info, text_of, wait)

# 0 has the child 1, 1 has 2 and 5, 2 has 3 and 4, 5 has 6; a text is as long as its state's number.
# State n has the time n, the clock is 6; 6 is current.
WHOLE = [wait(1), insert(1), wait(1), insert(1), wait(1), insert(1), UNDO, wait(1), insert(2), go_to(1),
         wait(1), insert(4), wait(1), insert(1)]
# 3 and 4 are deleted: 0 has 1, 1 has 2 and 5, 5 has 6.
PRUNED = WHOLE + [set_kept(2, 1), forget(5)]
# 0, 3 and 4 are deleted: 1 has 2 and 5, 5 has 6.
CUT = WHOLE + [set_kept(2, 1), forget(1)]


class Trees(unittest.TestCase):
    def test_whole(self):
        self.assertEqual(run_after(WHOLE, LEAVES, state_info(0), state_info(1), state_info(2), state_info(5)),
                         [[3, 3, 4, 6], [0, 0, 0, 0, 0, 1, 1], [1, 1, 1, 0, 1, 2, 2, 5], [2, 2, 2, 0, 1, 2, 3, 4],
                          [2, 5, 2, 0, 1, 1, 6]])

    def test_pruned(self):
        self.assertEqual(run_after(PRUNED, LEAVES, state_info(0), state_info(1), state_info(2), state_info(5)),
                         [[2, 2, 6], [0, 0, 0, 0, 0, 1, 1], [1, 1, 1, 0, 1, 2, 2, 5], [2, 2, 2, 1, 1, 0],
                          [2, 5, 2, 0, 1, 1, 6]])

    def test_cut(self):
        self.assertEqual(run_after(CUT, LEAVES, state_info(1), state_info(2), state_info(5), state_info(6)),
                         [[2, 2, 6], [0, 1, 0, 0, 0, 2, 2, 5], [2, 2, 1, 1, 1, 0], [2, 5, 1, 0, 1, 1, 6],
                          [6, 6, 2, 0, 1, 0]])


class UndoAndRedo(unittest.TestCase):
    def test_undo_at_the_new_root(self):
        self.assertEqual(run_after(CUT, UNDO, UNDO, UNDO, UNDO, REDO, REDO, REDO),
                         [[5, 5], [1, 1], [-7], [-7], [5, 5], [6, 6], [-7]])

    def test_redo_where_no_child_is_left(self):
        self.assertEqual(run_after(PRUNED, go_to(2), REDO), [[2, 1, 2], [-7]])
        self.assertEqual(run(insert(1), UNDO, forget(1), REDO), [[1, 1], [0, 0], [1, 1], [-7]])

    def test_undo_and_redo_around_a_change(self):
        self.assertEqual(run_after(CUT, go_to(1), change(0, 1, [3, 3]), UNDO, GET_TEXT, REDO, GET_TEXT),
                         [[2, 0, 1], [7, 2], [1, 1], [1, 7], [7, 2], [2, 3, 3]])

    def test_one_undo_for_a_group(self):
        self.assertEqual(run_after(CUT, OPEN_GROUP, insert(1), insert(1), CLOSE_GROUP, UNDO, REDO),
                         [[7], [7, 7], [7, 8], [7], [6, 6], [7, 8]])


class PreferredChild(unittest.TestCase):
    # The root has the children 1 to 4 and is current.
    four = [insert(1), UNDO, insert(2), UNDO, insert(3), UNDO, insert(4), UNDO]

    def test_the_greatest_when_the_one_visited_last_is_gone(self):
        # Neither the smallest that is left nor the one visited ahead of the one that is gone.
        self.assertEqual(run_after(self.four, go_to(3), go_to(1), UNDO, forget(4), REDO),
                         [[0, 1, 3], [1, 1, 1], [0, 0], [1, 1], [4, 4]])
        self.assertEqual(run_after(self.four, go_to(3), go_to(2), UNDO, forget(3), REDO),
                         [[0, 1, 3], [1, 1, 2], [0, 0], [2, 1, 2], [4, 4]])
        self.assertEqual(run_after(self.four, go_to(2), go_to(1), UNDO, set_kept(4, 0), forget(4), REDO),
                         [[0, 1, 2], [1, 1, 1], [0, 0], [0], [1, 1], [4, 4]])

    def test_the_greatest_of_those_that_are_left(self):
        self.assertEqual(run_after(self.four, set_kept(1, 1), set_kept(3, 1), forget(3), REDO),
                         [[0], [0], [2, 2, 4], [3, 3]])
        self.assertEqual(run_after(self.four, set_kept(1, 1), forget(2), REDO), [[0], [3, 2, 3, 4], [1, 1]])

    def test_stays_when_it_still_exists(self):
        self.assertEqual(run_after(self.four, go_to(2), UNDO, forget(4), REDO), [[0, 1, 2], [0, 0], [1, 1], [2, 2]])
        self.assertEqual(run_after(self.four, go_to(3), UNDO, set_kept(3, 1), forget(2), REDO),
                         [[0, 1, 3], [0, 0], [0], [3, 1, 2, 4], [3, 3]])

    def test_redo_makes_it_the_one_visited_last(self):
        self.assertEqual(run_after(self.four, go_to(1), UNDO, forget(4), REDO, UNDO, insert(5), UNDO, go_to(4), UNDO,
                                   REDO),
                         [[0, 1, 1], [0, 0], [1, 1], [4, 4], [0, 0], [5, 5], [0, 0], [0, 1, 4], [0, 0], [4, 4]])

    def test_is_not_made_up_for_when_another_is_created(self):
        self.assertEqual(run_after(self.four, go_to(1), UNDO, forget(4), insert(5), UNDO, REDO),
                         [[0, 1, 1], [0, 0], [1, 1], [5, 5], [0, 0], [5, 5]])

    def test_of_a_state_on_another_branch(self):
        # 1 has the children 2, 3 and 4, visited last is 2; 5 is below 0.
        before = [insert(1), insert(1), UNDO, insert(2), UNDO, insert(3), go_to(2), go_to(0), insert(5)]
        self.assertEqual(run_after(before, forget(5), go_to(1), REDO), [[1, 2], [1, 1, 1], [4, 4]])

    def test_of_the_new_root(self):
        self.assertEqual(run_after(CUT, go_to(1), REDO, UNDO, go_to(2), UNDO, REDO),
                         [[2, 0, 1], [5, 5], [1, 1], [0, 1, 2], [1, 1], [2, 2]])
        self.assertEqual(run_after(CUT, go_to(2), go_to(6), go_to(1), REDO),
                         [[2, 1, 2], [1, 2, 6], [2, 0, 1], [5, 5]])


class GoTo(unittest.TestCase):
    def test_deleted_states(self):
        for state in (3, 4):
            self.assertEqual(run_after(PRUNED, go_to(state), UNDO), [[-2], [5, 5]])
        for state in (0, 3, 4):
            self.assertEqual(run_after(CUT, go_to(state), UNDO), [[-2], [5, 5]])

    def test_those_that_are_left(self):
        self.assertEqual(run_after(CUT, go_to(2), go_to(5), go_to(1), go_to(6), go_to(6), go_to(2), go_to(1)),
                         [[2, 1, 2], [1, 1, 5], [1, 0, 1], [0, 2, 6], [0, 0, 6], [2, 1, 2], [1, 0, 1]])

    def test_the_last_state(self):
        self.assertEqual(run_after(WHOLE, forget(1), go_to(6), go_to(5), UNDO, REDO),
                         [[6, 3, 4, 2, 0, 1, 5], [0, 0, 6], [-2], [-7], [-7]])


class EarlierAndLater(unittest.TestCase):
    def test_earlier_over_gaps(self):
        for n, answer in ((1, [5, 1, 0, 5]), (2, [2, 2, 1, 2]), (3, [1, 2, 0, 1]), (4, [0, 3, 0, 0]), (5, [-7])):
            self.assertEqual(run_after(PRUNED, earlier(n)), [answer])
        for n, answer in ((1, [5, 1, 0, 5]), (2, [2, 2, 1, 2]), (3, [1, 2, 0, 1]), (4, [-7])):
            self.assertEqual(run_after(CUT, earlier(n)), [answer])

    def test_later_over_gaps(self):
        for n, answer in ((1, [1, 0, 1, 1]), (2, [2, 0, 2, 2]), (3, [5, 0, 2, 5]), (4, [6, 0, 3, 6]), (5, [-7])):
            self.assertEqual(run_after(PRUNED, go_to(0), later(n))[1], answer)
        for n, answer in ((1, [2, 0, 1, 2]), (2, [5, 0, 1, 5]), (3, [6, 0, 2, 6]), (4, [-7])):
            self.assertEqual(run_after(CUT, go_to(1), later(n))[1], answer)

    def test_one_by_one(self):
        self.assertEqual(run_after(CUT, earlier(1), earlier(1), earlier(1), earlier(1), later(1), later(1), later(1),
                                   later(1)),
                         [[5, 1, 0, 5], [2, 1, 1, 2], [1, 1, 0, 1], [-7], [2, 0, 1, 2], [5, 1, 1, 5], [6, 0, 1, 6],
                          [-7]])

    def test_there_and_back(self):
        for n in (1, 2, 3):
            there, back = run_after(CUT, earlier(n), later(n))
            self.assertEqual(back, [6, there[2], there[1], 6])

    def test_over_new_states(self):
        self.assertEqual(run_after(CUT, go_to(2), insert(5), earlier(1), earlier(2), later(3)),
                         [[2, 1, 2], [7, 7], [6, 2, 2, 6], [2, 2, 1, 2], [7, 0, 1, 7]])

    def test_the_only_state(self):
        before = WHOLE + [forget(1)]
        self.assertEqual(run_after(before, earlier(1), later(1), earlier(0), later(0)), [[-7], [-7], [-1], [-1]])


class Ago(unittest.TestCase):
    def test_every_time(self):
        for ticks, answer in ((0, [6, 0, 0, 6]), (1, [5, 1, 0, 5]), (2, [2, 2, 1, 2]), (3, [2, 2, 1, 2]),
                              (4, [2, 2, 1, 2]), (5, [1, 2, 0, 1]), (6, [0, 3, 0, 0]), (7, [-7])):
            self.assertEqual(run_after(PRUNED, ago(ticks)), [answer])

    def test_before_the_new_root_there_is_none(self):
        for ticks, answer in ((4, [2, 2, 1, 2]), (5, [1, 2, 0, 1]), (6, [-7]), (7, [-7])):
            self.assertEqual(run_after(CUT, ago(ticks)), [answer])
        self.assertEqual(run_after(WHOLE, forget(1), ago(0), ago(1), wait(1), ago(1)),
                         [[6, 3, 4, 2, 0, 1, 5], [6, 0, 0, 6], [-7], [7], [6, 0, 0, 6]])

    def test_preferred_children(self):
        self.assertEqual(run_after(CUT, ago(3), UNDO, REDO, ago(0), UNDO, UNDO, REDO, REDO),
                         [[2, 2, 1, 2], [1, 1], [2, 2], [6, 1, 2, 6], [5, 5], [1, 1], [5, 5], [6, 6]])


class Numbers(unittest.TestCase):
    def test_are_never_given_again(self):
        before = [insert(1), insert(1), insert(1), go_to(0), forget(1)]
        self.assertEqual(run_after(before, OPEN_GROUP, change(0, 0), CLOSE_GROUP, insert(1), LEAVES),
                         [[4], [4, 0], [4], [5, 1], [1, 5]])
        self.assertEqual(run_after(before, insert(1), UNDO, forget(1), insert(1)), [[4, 1], [0, 0], [1, 4], [5, 1]])

    def test_go_on_below_the_new_root(self):
        self.assertEqual(run_after(CUT, insert(1), revert(7), OPEN_GROUP, CLOSE_GROUP), [[7, 7], [8, 6], [9], [8]])

    def test_begin_anew_after_start(self):
        self.assertEqual(run_after(CUT, start([1]), insert(1), LEAVES, path(0, 1), earlier(1)),
                         [[1], [1, 2], [1, 1], [2, 0, 1], [0, 1, 0, 1]])


class Texts(unittest.TestCase):
    # 0 to 4 in a row, 5 below 3; the texts: 1 2 3, 1 9 3, 1 9 3 8, 7 1 9 3 8, 7 1 5 8, 7 1 9 6 6 8.
    tree = [start([1, 2, 3]), change(1, 1, [9]), change(3, 0, [8]), change(0, 0, [7]), change(2, 2, [5]), UNDO,
            change(3, 1, [6, 6])]
    texts = [[3, 1, 2, 3], [3, 1, 9, 3], [4, 1, 9, 3, 8], [5, 7, 1, 9, 3, 8], [4, 7, 1, 5, 8], [6, 7, 1, 9, 6, 6, 8]]

    def test_of_the_states_that_are_left(self):
        for limit, deleted in ((6, []), (5, [4]), (4, [4, 0]), (3, [4, 0, 1]), (2, [4, 0, 1, 2])):
            answered = run_after(self.tree + [forget(limit)], *[text_of(state) for state in range(6)], GET_TEXT)
            expected = [[-2] if state in deleted else self.texts[state] for state in range(6)]
            self.assertEqual(answered, expected + [self.texts[5]])

    def test_of_those_gone_to(self):
        self.assertEqual(run_after(self.tree, forget(3), UNDO, GET_TEXT, UNDO, GET_TEXT, REDO, REDO, GET_TEXT),
                         [[3, 4, 0, 1], [3, 5], self.texts[3], [2, 4], self.texts[2], [3, 5], [5, 6], self.texts[5]])

    def test_changes(self):
        self.assertEqual(run_after(self.tree, forget(2), UNDO, change(5, 0, [4]), change(0, 2), GET_TEXT, text_of(3)),
                         [[4, 4, 0, 1, 2], [3, 5], [6, 6], [7, 4], [4, 9, 3, 8, 4], self.texts[3]])
        self.assertEqual(run_after(self.tree, forget(2), change(7, 0), change(0, 7), change(6, 0, [256])),
                         [[4, 4, 0, 1, 2], [-1], [-1], [-1]])

    def test_reverts_and_origins(self):
        self.assertEqual(run_after(self.tree, forget(4), ORIGINS, revert(2), GET_TEXT, ORIGINS, revert(3), GET_TEXT),
                         [[2, 4, 0], [6, 3, 1, 1, 5, 5, 2], [6, 5], [5, 7, 1, 9, 6, 6], [5, 3, 1, 1, 5, 5],
                          [7, 4], [4, 1, 9, 6, 6]])

    def test_a_revert_takes_the_bytes_from_the_text_of_the_new_root(self):
        self.assertEqual(run_after(self.tree, forget(2), revert(5), GET_TEXT, ORIGINS, path(3, 6)),
                         [[4, 4, 0, 1, 2], [6, 5], [5, 7, 1, 9, 3, 8], [5, 3, 3, 3, 6, 3], [3, 3, 5, 6]])


class SeveralTimes(unittest.TestCase):
    def test_between_changes(self):
        self.assertEqual(run(insert(1), insert(1), forget(2), insert(1), UNDO, insert(1), forget(2), LEAVES,
                             state_info(4), state_info(2), UNDO, UNDO),
                         [[1, 1], [2, 2], [1, 0], [3, 3], [2, 2], [4, 3], [2, 3, 1], [1, 4],
                          [3, 0, 1, 0, 1, 0], [0, 0, 0, 0, 0, 1, 4], [2, 2], [-7]])


if __name__ == "__main__":
    unittest.main()
