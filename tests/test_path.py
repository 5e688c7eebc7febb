import unittest

from tests.calls import (CLOSE_GROUP, MOST, OPEN_GROUP, REDO, UNDO, forget, go_to, insert, path, run, run_after, start)


class Path(unittest.TestCase):
    # 0 has the children 1 and 5, 1 has 2 and 4, 2 has 3, 5 has 6.
    tree = [insert(1), insert(1), insert(1), go_to(1), insert(1), go_to(0), insert(1), insert(1)]

    def test_to_itself(self):
        self.assertEqual(run(path(0, 0)), [[1, 0]])
        for state in range(7):
            self.assertEqual(run_after(self.tree, path(state, state)), [[1, state]])

    def test_up(self):
        self.assertEqual(run_after(self.tree, path(3, 0), path(3, 1), path(3, 2), path(6, 5), path(1, 0)),
                         [[4, 3, 2, 1, 0], [3, 3, 2, 1], [2, 3, 2], [2, 6, 5], [2, 1, 0]])

    def test_down(self):
        self.assertEqual(run_after(self.tree, path(0, 3), path(1, 3), path(2, 3), path(5, 6), path(0, 1)),
                         [[4, 0, 1, 2, 3], [3, 1, 2, 3], [2, 2, 3], [2, 5, 6], [2, 0, 1]])

    def test_across(self):
        self.assertEqual(run_after(self.tree, path(3, 6), path(6, 3), path(4, 3), path(3, 4), path(2, 4), path(1, 5)),
                         [[6, 3, 2, 1, 0, 5, 6], [6, 6, 5, 0, 1, 2, 3], [4, 4, 1, 2, 3], [4, 3, 2, 1, 4],
                          [3, 2, 1, 4], [3, 1, 0, 5]])

    def test_back_is_the_same_in_reverse(self):
        for one in range(7):
            for other in range(7):
                there, back = run_after(self.tree, path(one, other), path(other, one))
                self.assertEqual(there[1:], back[:0:-1])
                self.assertEqual(there[0], len(there) - 1)

    def test_go_to_answers_its_steps(self):
        for one in range(7):
            for other in range(7):
                way, steps = run_after(self.tree + [go_to(one)], path(one, other), go_to(other))
                up = [state for state, behind in zip(way[1:], way[2:]) if behind < state]
                down = [state for state, behind in zip(way[1:], way[2:]) if behind > state]
                self.assertEqual(steps[:2], [len(up), len(down)])

    def test_leaves_the_current_state_and_the_preferred_children(self):
        self.assertEqual(run_after(self.tree, path(0, 3), UNDO, UNDO, path(3, 2), REDO, REDO, go_to(1), REDO),
                         [[4, 0, 1, 2, 3], [5, 1], [0, 0], [2, 3, 2], [5, 1], [6, 2], [2, 1, 1], [4, 2]])

    def test_wherever_one_is(self):
        for state in range(7):
            self.assertEqual(run_after(self.tree + [go_to(state)], path(4, 6)), [[5, 4, 1, 0, 5, 6]])

    def test_long(self):
        before = [insert(1)] * 39 + [go_to(0)] + [insert(1)] * 39
        self.assertEqual(run_after(before, path(39, 78)), [[79, *range(39, -1, -1), *range(40, 79)]])

    def test_inside_a_group(self):
        before = self.tree + [OPEN_GROUP, insert(1)]
        self.assertEqual(run_after(before, path(6, 1), path(6, 7), CLOSE_GROUP, path(7, 1)),
                         [[4, 6, 5, 0, 1], [-2], [7], [5, 7, 6, 5, 0, 1]])

    def test_no_such_state(self):
        for number in (7, 8, 80, MOST):
            self.assertEqual(run_after(self.tree, path(number, 0), path(0, number), path(number, 6), path(6, number),
                                       UNDO),
                             [[-2], [-2], [-2], [-2], [5, 1]])

    def test_neither_exists(self):
        self.assertEqual(run_after(self.tree, path(7, 7), path(8, MOST), path(MOST, 8)), [[-2], [-2], [-2]])
        self.assertEqual(run(path(1, 1), path(0, 1), path(1, 0)), [[-2], [-2], [-2]])

    def test_after_start(self):
        self.assertEqual(run_after(self.tree, start([1]), path(0, 0), path(0, 1)), [[1], [1, 0], [-2]])


class PathAfterForget(unittest.TestCase):
    tree = Path.tree

    def test_below_the_new_root(self):
        # What is left is 5 to 8 and 0; 5 is still below it.
        self.assertEqual(run_after(self.tree, insert(1), UNDO, insert(1), forget(5), path(7, 8), path(5, 8),
                                   path(8, 5)),
                         [[7, 3], [6, 2], [8, 3], [4, 3, 2, 4, 1], [3, 7, 6, 8], [3, 5, 6, 8], [3, 8, 6, 5]])

    def test_deleted_states(self):
        self.assertEqual(run_after(self.tree, go_to(4), forget(2), path(1, 4), path(4, 0), path(0, 4), path(3, 2)),
                         [[2, 2, 2], [5, 3, 2, 6, 5, 0], [2, 1, 4], [-2], [-2], [-2]])

    def test_the_last_state(self):
        self.assertEqual(run_after(self.tree, forget(1), path(6, 6), path(5, 6)), [[6, 3, 2, 4, 1, 0, 5], [1, 6], [-2]])


if __name__ == "__main__":
    unittest.main()
