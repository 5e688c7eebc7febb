import unittest

from tests.calls import CLOSE_GROUP, MOST, OPEN_GROUP, REDO, UNDO, go_to, insert, run, run_after, start


class GoTo(unittest.TestCase):
    # 0 has the children 1 and 4, 1 has 2, 2 has 3, 4 has 5 and 6; a text is ten bytes and its state's number long.
    tree = [start([1] * 10), insert(1), insert(1), insert(1), UNDO, UNDO, UNDO, insert(4), insert(1), UNDO, insert(2)]

    def test_tree(self):
        self.assertEqual(run(*self.tree), [[10], [1, 11], [2, 12], [3, 13], [2, 12], [1, 11], [0, 10], [4, 14],
                                           [5, 15], [4, 14], [6, 16]])

    def test_to_the_current_state(self):
        self.assertEqual(run(go_to(0)), [[0, 0, 0]])
        self.assertEqual(run_after(self.tree, go_to(6), go_to(6), UNDO), [[0, 0, 16], [0, 0, 16], [4, 14]])

    def test_up(self):
        self.assertEqual(run_after(self.tree, go_to(4), go_to(0)), [[1, 0, 14], [1, 0, 10]])
        self.assertEqual(run_after(self.tree, go_to(0), UNDO), [[2, 0, 10], [-7]])
        self.assertEqual(run_after(self.tree, go_to(3), go_to(1), UNDO), [[2, 3, 13], [2, 0, 11], [0, 10]])

    def test_down(self):
        self.assertEqual(run_after(self.tree, go_to(0), go_to(3), UNDO), [[2, 0, 10], [0, 3, 13], [2, 12]])
        self.assertEqual(run_after(self.tree, go_to(0), go_to(1), go_to(3)), [[2, 0, 10], [0, 1, 11], [0, 2, 13]])
        self.assertEqual(run_after(self.tree, go_to(4), go_to(5)), [[1, 0, 14], [0, 1, 15]])

    def test_to_another_branch(self):
        self.assertEqual(run_after(self.tree, go_to(5), go_to(6)), [[1, 1, 15], [1, 1, 16]])
        self.assertEqual(run_after(self.tree, go_to(3), go_to(4), go_to(2), go_to(5), go_to(1)),
                         [[2, 3, 13], [3, 1, 14], [1, 2, 12], [2, 2, 15], [2, 1, 11]])

    def test_no_such_state(self):
        for number in (7, 8, 80, MOST):
            self.assertEqual(run_after(self.tree, go_to(number), go_to(5), go_to(number), UNDO, REDO),
                             [[-2], [1, 1, 15], [-2], [4, 14], [5, 15]])
        self.assertEqual(run(go_to(1)), [[-2]])
        self.assertEqual(run(go_to(MOST)), [[-2]])

    def test_a_state_exists_when_its_group_is_closed(self):
        self.assertEqual(run(go_to(1), OPEN_GROUP, insert(1), CLOSE_GROUP, go_to(0), go_to(1)),
                         [[-2], [1], [1, 1], [1], [1, 0, 0], [0, 1, 1]])

    def test_changes_go_on_from_there(self):
        self.assertEqual(run_after(self.tree, go_to(2), insert(5), UNDO, go_to(7), go_to(3)),
                         [[2, 2, 12], [7, 17], [2, 12], [0, 1, 17], [1, 1, 13]])

    def test_long_ways(self):
        before = [insert(1)] * 37 + [go_to(0)] + [insert(1)] * 37
        self.assertEqual(run_after(before, go_to(37), go_to(74), go_to(1), go_to(38), go_to(0)),
                         [[37, 37, 37], [37, 37, 37], [37, 1, 1], [1, 1, 1], [1, 0, 0]])


if __name__ == "__main__":
    unittest.main()
