import unittest

from tests.calls import (CLOSE_GROUP, GET_TEXT, OPEN_GROUP, ORIGINS, REDO, UNDO, change, forget, go_to, insert,
                         revert, run, run_after, start)


class Origins(unittest.TestCase):
    def test_an_empty_text(self):
        self.assertEqual(run(ORIGINS), [[0]])
        self.assertEqual(run(start([1, 2]), change(0, 2), ORIGINS), [[2], [1, 0], [0]])

    def test_the_text_of_the_root(self):
        self.assertEqual(run(start([1, 2, 3]), ORIGINS), [[3], [3, 0, 0, 0]])
        self.assertEqual(run(start([1] * 300), ORIGINS), [[300], [300] + [0] * 300])

    def test_inserted_at_the_start_the_middle_and_the_end(self):
        before = [start([1, 2, 3])]
        self.assertEqual(run_after(before, change(0, 0, [9, 9]), ORIGINS), [[1, 5], [5, 1, 1, 0, 0, 0]])
        self.assertEqual(run_after(before, change(2, 0, [9, 9]), ORIGINS), [[1, 5], [5, 0, 0, 1, 1, 0]])
        self.assertEqual(run_after(before, change(3, 0, [9, 9]), ORIGINS), [[1, 5], [5, 0, 0, 0, 1, 1]])

    def test_the_same_byte_once_more_is_another(self):
        self.assertEqual(run(start([5, 5]), change(1, 0, [5]), change(0, 1, [5]), ORIGINS),
                         [[2], [1, 3], [2, 3], [3, 2, 1, 0]])

    def test_of_several_states(self):
        self.assertEqual(run(change(0, 0, [1, 2, 3]), change(1, 0, [4, 5]), change(4, 1, [6]), change(2, 0, [7]),
                             GET_TEXT, ORIGINS),
                         [[1, 3], [2, 5], [3, 5], [4, 6], [6, 1, 4, 7, 5, 2, 6], [6, 1, 2, 4, 2, 1, 3]])

    def test_inserted_and_removed_again(self):
        self.assertEqual(run(start([1, 2]), change(1, 0, [3, 4, 5]), change(2, 2), ORIGINS, change(1, 1), ORIGINS),
                         [[2], [1, 5], [2, 3], [3, 0, 1, 0], [3, 2], [2, 0, 0]])

    def test_a_change_that_replaces(self):
        self.assertEqual(run(start([1, 2, 3, 4]), change(1, 2, [8, 9, 7]), ORIGINS, change(0, 2, [6]), ORIGINS),
                         [[4], [1, 5], [5, 0, 1, 1, 1, 0], [2, 4], [4, 2, 1, 1, 0]])

    def test_a_change_of_nothing(self):
        self.assertEqual(run(start([1, 2]), change(1, 0), change(1, 0, [3]), ORIGINS),
                         [[2], [1, 2], [2, 3], [3, 0, 2, 0]])

    def test_a_group(self):
        self.assertEqual(run(start([1, 2]), OPEN_GROUP, change(1, 0, [3, 4]), change(0, 1), change(3, 0, [5]),
                             CLOSE_GROUP, ORIGINS, change(1, 1, [6]), ORIGINS),
                         [[2], [1], [1, 4], [1, 3], [1, 4], [1], [4, 1, 1, 0, 1], [2, 4], [4, 1, 2, 0, 1]])

    def test_on_a_branch(self):
        before = [start([1]), insert(1), insert(2), go_to(1), change(2, 0, [8]), go_to(0), change(0, 1, [9, 9])]
        self.assertEqual(run_after(before, ORIGINS, go_to(3), ORIGINS, go_to(2), ORIGINS, go_to(1), ORIGINS),
                         [[2, 4, 4], [1, 2, 3], [3, 1, 0, 3], [1, 1, 4], [4, 2, 2, 1, 0], [1, 0, 2], [2, 1, 0]])

    def test_after_undo_and_redo(self):
        self.assertEqual(run(start([1]), insert(1), insert(1), UNDO, ORIGINS, REDO, ORIGINS),
                         [[1], [1, 2], [2, 3], [1, 2], [2, 1, 0], [2, 3], [3, 2, 1, 0]])

    def test_a_revert_inserts_what_it_gives_back(self):
        self.assertEqual(run(start([1, 2, 3, 4]), change(1, 2, [9]), revert(1), GET_TEXT, ORIGINS),
                         [[4], [1, 3], [2, 4], [4, 1, 2, 3, 4], [4, 0, 2, 2, 0]])

    def test_changes_nothing(self):
        self.assertEqual(run(start([1]), insert(1), ORIGINS, ORIGINS, GET_TEXT, UNDO, ORIGINS, GET_TEXT),
                         [[1], [1, 2], [2, 1, 0], [2, 1, 0], [2, 7, 1], [0, 1], [1, 0], [1, 1]])

    def test_after_start(self):
        self.assertEqual(run(insert(2), start([4, 4, 4]), ORIGINS), [[1, 2], [3], [3, 0, 0, 0]])


class OriginsInAGroup(unittest.TestCase):
    def test_refused_while_one_is_open(self):
        self.assertEqual(run(OPEN_GROUP, ORIGINS), [[1], [-9]])
        self.assertEqual(run(start([1]), OPEN_GROUP, insert(1), ORIGINS, CLOSE_GROUP, ORIGINS),
                         [[1], [1], [1, 2], [-9], [1], [2, 1, 0]])
        self.assertEqual(run(start([1]), OPEN_GROUP, ORIGINS, CLOSE_GROUP, ORIGINS), [[1], [1], [-9], [0], [1, 0]])


class OriginsAfterForget(unittest.TestCase):
    # Four states in a row: the texts 1 2, 1 3 2, 1 3 4 2 and 5 3 4 2.
    tree = [start([1, 2]), change(1, 0, [3]), change(2, 0, [4]), change(0, 1, [5])]

    def test_before(self):
        self.assertEqual(run_after(self.tree, GET_TEXT, ORIGINS), [[4, 5, 3, 4, 2], [4, 3, 1, 2, 0]])

    def test_the_text_of_the_new_root_belongs_to_it(self):
        self.assertEqual(run_after(self.tree, forget(3), ORIGINS), [[1, 0], [4, 3, 1, 2, 1]])
        self.assertEqual(run_after(self.tree, forget(2), ORIGINS), [[2, 0, 1], [4, 3, 2, 2, 2]])
        self.assertEqual(run_after(self.tree, forget(1), ORIGINS), [[3, 0, 1, 2], [4, 3, 3, 3, 3]])

    def test_one_root_behind_another(self):
        self.assertEqual(run_after(self.tree, forget(3), ORIGINS, forget(2), ORIGINS, forget(1), ORIGINS),
                         [[1, 0], [4, 3, 1, 2, 1], [1, 1], [4, 3, 2, 2, 2], [1, 2], [4, 3, 3, 3, 3]])

    def test_at_the_new_root(self):
        self.assertEqual(run_after(self.tree, forget(2), UNDO, ORIGINS), [[2, 0, 1], [2, 4], [4, 2, 2, 2, 2]])

    def test_changes_go_on_from_there(self):
        self.assertEqual(run_after(self.tree, forget(1), change(4, 0, [6]), change(1, 1), ORIGINS),
                         [[3, 0, 1, 2], [4, 5], [5, 4], [4, 3, 3, 3, 4]])

    def test_a_new_root_from_a_group(self):
        self.assertEqual(run(start([1]), OPEN_GROUP, insert(1), insert(1), CLOSE_GROUP, insert(1), forget(2), ORIGINS),
                         [[1], [1], [1, 2], [1, 3], [1], [2, 4], [1, 0], [4, 2, 1, 1, 1]])

    def test_deleted_branches_do_not_matter(self):
        self.assertEqual(run(start([1]), insert(1), insert(1), UNDO, insert(1), forget(3), ORIGINS),
                         [[1], [1, 2], [2, 3], [1, 2], [3, 3], [1, 2], [3, 3, 1, 0]])


if __name__ == "__main__":
    unittest.main()
