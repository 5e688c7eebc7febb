import unittest

from tests.calls import REDO, UNDO, change, earlier, go_to, insert, later, run, run_after, start


class UndoAndRedo(unittest.TestCase):
    def test_at_the_root(self):
        self.assertEqual(run(UNDO), [[-7]])
        self.assertEqual(run(start([1]), insert(1), UNDO, UNDO, UNDO, REDO), [[1], [1, 2], [0, 1], [-7], [-7], [1, 2]])

    def test_at_a_leaf(self):
        self.assertEqual(run(REDO), [[-7]])
        self.assertEqual(run(insert(1), REDO, UNDO, REDO, REDO), [[1, 1], [-7], [0, 0], [1, 1], [-7]])

    def test_way_there_and_back(self):
        before = [start([1]), insert(1), insert(2), change(0, 3)]
        self.assertEqual(run_after(before, UNDO, UNDO, UNDO, REDO, REDO, REDO),
                         [[2, 4], [1, 2], [0, 1], [1, 2], [2, 4], [3, 1]])

    def test_undo_goes_to_the_parent_not_to_the_number_before(self):
        before = [insert(1), insert(1), UNDO, UNDO, insert(5), insert(5)]
        self.assertEqual(run_after(before, UNDO, UNDO), [[3, 5], [0, 0]])

    def test_after_a_change(self):
        before = [start([1] * 9), insert(1), insert(1), UNDO, insert(2), UNDO]
        for made, length in ((insert(3), 13), (change(4, 6), 4), (change(0, 0), 10), (change(1, 1, [5]), 10)):
            self.assertEqual(run_after(before, made, UNDO, REDO, UNDO, UNDO),
                             [[4, length], [1, 10], [4, length], [1, 10], [0, 9]])


class PreferredChild(unittest.TestCase):
    # 0 has the children 1 and 5, 1 has 2 and 4, 2 has 3, 5 has 6 and 7; a text is as long as its state's number.
    tree = [insert(1), insert(1), insert(1), UNDO, UNDO, insert(3), go_to(0), insert(5), insert(1), UNDO, insert(2)]

    def test_tree(self):
        self.assertEqual(run(*self.tree),
                         [[1, 1], [2, 2], [3, 3], [2, 2], [1, 1], [4, 4], [2, 0, 0], [5, 5], [6, 6], [5, 5], [7, 7]])

    def test_after_new_branches(self):
        self.assertEqual(run_after(self.tree, UNDO, UNDO, REDO, REDO), [[5, 5], [0, 0], [5, 5], [7, 7]])
        self.assertEqual(run_after(self.tree, go_to(1), REDO, REDO), [[2, 1, 1], [4, 4], [-7]])

    def test_after_undo_and_redo(self):
        self.assertEqual(run_after(self.tree, go_to(6), UNDO, REDO, UNDO, UNDO, REDO, REDO, UNDO, REDO),
                         [[1, 1, 6], [5, 5], [6, 6], [5, 5], [0, 0], [5, 5], [6, 6], [5, 5], [6, 6]])

    def test_a_new_branch_after_go_to(self):
        self.assertEqual(run_after(self.tree, go_to(3), UNDO, UNDO, insert(7), UNDO, REDO),
                         [[2, 3, 3], [2, 2], [1, 1], [8, 8], [1, 1], [8, 8]])

    def test_after_go_to_for_every_state_on_the_way(self):
        self.assertEqual(run_after(self.tree, go_to(3), UNDO, UNDO, UNDO, REDO, REDO, REDO),
                         [[2, 3, 3], [2, 2], [1, 1], [0, 0], [1, 1], [2, 2], [3, 3]])
        self.assertEqual(run_after(self.tree, go_to(6), go_to(0), REDO, REDO),
                         [[1, 1, 6], [2, 0, 0], [5, 5], [6, 6]])

    def test_after_go_to_not_for_the_new_current_state(self):
        self.assertEqual(run_after(self.tree, go_to(2), go_to(6), go_to(1), REDO),
                         [[2, 2, 2], [2, 2, 6], [2, 1, 1], [2, 2]])
        self.assertEqual(run_after(self.tree, go_to(2), go_to(0), REDO, REDO, REDO),
                         [[2, 2, 2], [2, 0, 0], [1, 1], [2, 2], [3, 3]])
        self.assertEqual(run_after(self.tree, go_to(6), go_to(5), go_to(5), REDO),
                         [[1, 1, 6], [1, 0, 5], [0, 0, 5], [6, 6]])

    def test_after_go_to_other_branches_keep_theirs(self):
        self.assertEqual(run_after(self.tree, go_to(2), go_to(6), go_to(0), REDO, REDO, go_to(1), REDO),
                         [[2, 2, 2], [2, 2, 6], [2, 0, 0], [5, 5], [6, 6], [2, 1, 1], [2, 2]])

    def test_after_earlier_for_every_state_on_the_way(self):
        self.assertEqual(run_after(self.tree, earlier(4), UNDO, UNDO, UNDO, REDO, REDO, REDO),
                         [[3, 2, 3, 3], [2, 2], [1, 1], [0, 0], [1, 1], [2, 2], [3, 3]])
        self.assertEqual(run_after(self.tree, earlier(1), UNDO, REDO), [[6, 1, 1, 6], [5, 5], [6, 6]])

    def test_after_earlier_not_for_the_new_current_state(self):
        self.assertEqual(run_after(self.tree, go_to(2), go_to(7), earlier(6), REDO),
                         [[2, 2, 2], [2, 2, 7], [1, 2, 1, 1], [2, 2]])
        self.assertEqual(run_after(self.tree, go_to(3), earlier(3), REDO, REDO),
                         [[2, 3, 3], [0, 3, 0, 0], [1, 1], [2, 2]])

    def test_after_later_for_every_state_on_the_way(self):
        self.assertEqual(run_after(self.tree, go_to(0), later(3), UNDO, UNDO, UNDO, REDO, REDO, REDO),
                         [[2, 0, 0], [3, 0, 3, 3], [2, 2], [1, 1], [0, 0], [1, 1], [2, 2], [3, 3]])
        self.assertEqual(run_after(self.tree, go_to(4), later(2), UNDO, UNDO, REDO, REDO),
                         [[2, 2, 4], [6, 2, 2, 6], [5, 5], [0, 0], [5, 5], [6, 6]])

    def test_after_later_not_for_the_new_current_state(self):
        self.assertEqual(run_after(self.tree, go_to(6), go_to(3), later(2), REDO),
                         [[1, 1, 6], [2, 3, 3], [5, 3, 1, 5], [6, 6]])
        self.assertEqual(run_after(self.tree, go_to(2), go_to(0), later(1), REDO),
                         [[2, 2, 2], [2, 0, 0], [1, 0, 1, 1], [2, 2]])

    def test_refused_moves_leave_it(self):
        before = self.tree + [go_to(2), go_to(0)]
        for move, code in ((UNDO, -7), (go_to(8), -2), (earlier(1), -7), (earlier(0), -1), (later(0), -1),
                           (later(8), -7)):
            self.assertEqual(run_after(before, move, REDO, REDO, REDO), [[code], [1, 1], [2, 2], [3, 3]])


if __name__ == "__main__":
    unittest.main()
