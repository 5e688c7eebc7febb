import unittest

from tests.calls import (CLOSE_GROUP, GET_TEXT, LEAVES, MOST, OPEN_GROUP, ORIGINS, REDO, UNDO, ago, change, earlier,
                         forget, go_to, insert, later, path, revert, run, run_after, set_kept, start, state_info,
                         text_of, wait)


class Groups(unittest.TestCase):
    def test_without_changes(self):
        self.assertEqual(run(OPEN_GROUP, CLOSE_GROUP, UNDO, REDO, go_to(1), insert(1)),
                         [[1], [0], [-7], [-7], [-2], [1, 1]])

    def test_without_changes_answers_the_current_state(self):
        before = [insert(1), insert(1), insert(1), UNDO, UNDO]
        self.assertEqual(run_after(before, OPEN_GROUP, CLOSE_GROUP, OPEN_GROUP, CLOSE_GROUP, REDO, insert(1)),
                         [[4], [1], [4], [1], [2, 2], [4, 3]])

    def test_with_one_change(self):
        self.assertEqual(run(start([1]), OPEN_GROUP, insert(2), CLOSE_GROUP, UNDO, REDO),
                         [[1], [1], [1, 3], [1], [0, 1], [1, 3]])

    def test_with_several_changes(self):
        self.assertEqual(run(start([1]), OPEN_GROUP, insert(2), insert(3), change(4, 2), change(4, 0, [8]),
                             CLOSE_GROUP, go_to(2), UNDO, UNDO, REDO, insert(1)),
                         [[1], [1], [1, 3], [1, 6], [1, 4], [1, 5],
                          [1], [-2], [0, 1], [-7], [1, 5], [2, 6]])

    def test_with_a_change_of_nothing(self):
        self.assertEqual(run(start([1]), OPEN_GROUP, change(1, 0), CLOSE_GROUP, UNDO, REDO),
                         [[1], [1], [1, 1], [1], [0, 1], [1, 1]])

    def test_with_changes_that_cancel_each_other(self):
        self.assertEqual(run(start([1]), OPEN_GROUP, insert(1), change(0, 1), CLOSE_GROUP, UNDO, REDO),
                         [[1], [1], [1, 2], [1, 1], [1], [0, 1], [1, 1]])

    def test_changes_refer_to_the_current_text(self):
        self.assertEqual(run(start([1]), OPEN_GROUP, insert(2), change(4, 0), change(3, 0), change(0, 3),
                             change(1, 0), change(0, 1), change(0, 0), CLOSE_GROUP),
                         [[1], [1], [1, 3], [-1], [1, 3], [1, 0], [-1], [-1], [1, 0], [1]])

    def test_numbers_on_a_branch(self):
        before = [insert(1), insert(1), UNDO, UNDO]
        self.assertEqual(run_after(before, OPEN_GROUP, insert(5), insert(5), CLOSE_GROUP, insert(1), UNDO, UNDO),
                         [[3], [3, 5], [3, 10], [3], [4, 11], [3, 10], [0, 0]])

    def test_one_behind_another(self):
        self.assertEqual(run(OPEN_GROUP, insert(1), CLOSE_GROUP, OPEN_GROUP, CLOSE_GROUP, OPEN_GROUP, insert(2),
                             insert(2), CLOSE_GROUP, UNDO, UNDO),
                         [[1], [1, 1], [1], [2], [1], [2], [2, 3], [2, 5], [2], [1, 1], [0, 0]])

    def test_changes_of_a_closed_group_are_not_in_the_next(self):
        self.assertEqual(run(OPEN_GROUP, insert(1), CLOSE_GROUP, UNDO, OPEN_GROUP, CLOSE_GROUP, REDO),
                         [[1], [1, 1], [1], [0, 0], [2], [0], [1, 1]])
        self.assertEqual(run(OPEN_GROUP, insert(1), CLOSE_GROUP, UNDO, OPEN_GROUP, insert(3), CLOSE_GROUP, UNDO),
                         [[1], [1, 1], [1], [0, 0], [2], [2, 3], [2], [0, 0]])

    def test_one_undo_for_a_group(self):
        for count in (1, 2, 3, 20):
            changes = [insert(1)] * count
            before = [start([1, 2]), insert(1), OPEN_GROUP, *changes, CLOSE_GROUP]
            self.assertEqual(run_after(before, UNDO, REDO), [[1, 3], [2, 3 + count]])


class RefusedGroups(unittest.TestCase):
    def test_open_group_while_one_is_open(self):
        self.assertEqual(run(OPEN_GROUP, OPEN_GROUP, CLOSE_GROUP, CLOSE_GROUP), [[1], [-9], [0], [-9]])
        self.assertEqual(run(OPEN_GROUP, insert(2), OPEN_GROUP, insert(1), CLOSE_GROUP, UNDO, UNDO),
                         [[1], [1, 2], [-9], [1, 3], [1], [0, 0], [-7]])

    def test_close_group_while_none_is_open(self):
        self.assertEqual(run(CLOSE_GROUP), [[-9]])
        self.assertEqual(run(insert(1), CLOSE_GROUP, UNDO, CLOSE_GROUP, REDO),
                         [[1, 1], [-9], [0, 0], [-9], [1, 1]])
        self.assertEqual(run(OPEN_GROUP, insert(1), CLOSE_GROUP, CLOSE_GROUP, UNDO),
                         [[1], [1, 1], [1], [-9], [0, 0]])

    def test_no_move_while_a_group_is_open(self):
        before = [insert(1), insert(1), insert(1), UNDO, OPEN_GROUP]
        for move in (UNDO, REDO, go_to(0), go_to(2), earlier(1), later(1), ago(0)):
            self.assertEqual(run_after(before, move), [[-9]])

    def test_neither_origins_nor_revert_nor_forget_while_a_group_is_open(self):
        before = [insert(1), insert(1), insert(1), UNDO, OPEN_GROUP]
        for call in (ORIGINS, revert(2), forget(1), forget(4)):
            self.assertEqual(run_after(before, call), [[-9]])

    def test_what_is_answered_while_a_group_is_open(self):
        before = [insert(1), insert(1), insert(1), UNDO, OPEN_GROUP, insert(1)]
        self.assertEqual(run_after(before, GET_TEXT, text_of(2), state_info(2), LEAVES, path(2, 0), set_kept(2, 1),
                                   wait(1), CLOSE_GROUP),
                         [[3, 7, 7, 7], [2, 7, 7], [2, 0, 2, 0, 1, 1, 3], [1, 3], [3, 2, 1, 0], [0], [1], [4]])

    def test_a_refused_move_leaves_the_group_and_the_tree(self):
        for move in (UNDO, REDO, go_to(0), go_to(2), go_to(3), earlier(1), later(1), ago(0), ORIGINS, revert(1),
                     forget(1)):
            self.assertEqual(run(insert(1), insert(1), UNDO, insert(5), UNDO, OPEN_GROUP, insert(7), move,
                                 CLOSE_GROUP, UNDO, REDO),
                             [[1, 1], [2, 2], [1, 1], [3, 6], [1, 1], [4], [4, 8], [-9], [4], [1, 1], [4, 8]])
            self.assertEqual(run(insert(1), insert(1), UNDO, insert(5), UNDO, OPEN_GROUP, move, CLOSE_GROUP, REDO),
                             [[1, 1], [2, 2], [1, 1], [3, 6], [1, 1], [4], [-9], [1], [3, 6]])

    def test_open_group_comes_ahead_of_other_errors(self):
        for move in (UNDO, REDO, go_to(1), go_to(MOST), earlier(0), earlier(1), earlier(MOST), later(0), later(1),
                     later(MOST), ago(1), ago(MOST), revert(0), revert(1), revert(MOST), forget(0)):
            self.assertEqual(run(OPEN_GROUP, move), [[1], [-9]])
            self.assertEqual(run(OPEN_GROUP, insert(1), move), [[1], [1, 1], [-9]])

    def test_moves_again_when_the_group_is_closed(self):
        before = [insert(1), insert(1), UNDO, OPEN_GROUP, wait(1), CLOSE_GROUP]
        self.assertEqual(run_after(before, UNDO), [[0, 0]])
        self.assertEqual(run_after(before, REDO), [[2, 2]])
        self.assertEqual(run_after(before, go_to(2)), [[0, 1, 2]])
        self.assertEqual(run_after(before, earlier(1)), [[0, 1, 0, 0]])
        self.assertEqual(run_after(before, later(1)), [[2, 0, 1, 2]])
        self.assertEqual(run_after(before, ago(0)), [[2, 0, 1, 2]])
        self.assertEqual(run_after(before, ORIGINS), [[1, 1]])
        self.assertEqual(run_after(before, revert(1)), [[3, 0]])
        self.assertEqual(run_after(before, forget(1)), [[2, 2, 0]])


class PreferredChildAndGroups(unittest.TestCase):
    def test_a_group_with_changes_makes_the_preferred_child(self):
        self.assertEqual(run(insert(1), UNDO, OPEN_GROUP, insert(2), CLOSE_GROUP, UNDO, REDO),
                         [[1, 1], [0, 0], [2], [2, 2], [2], [0, 0], [2, 2]])

    def test_a_group_without_changes_leaves_the_preferred_child(self):
        before = [insert(1), UNDO, insert(2), go_to(1), UNDO, OPEN_GROUP]
        self.assertEqual(run_after(before, CLOSE_GROUP, REDO), [[0], [1, 1]])
        self.assertEqual(run_after(before, change(0, 1), CLOSE_GROUP, REDO), [[-1], [0], [1, 1]])


if __name__ == "__main__":
    unittest.main()
