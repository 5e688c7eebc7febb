import unittest

from tests.calls import (CLOSE_GROUP, LEAVES, OPEN_GROUP, REDO, UNDO, change, forget, go_to, insert, revert, run,
                         run_after, set_kept, start)


class Leaves(unittest.TestCase):
    # 0 has the children 1 and 4, 1 has 2 and 3, 4 has 5; 3, 2 and 5 were made the current one in this order.
    tree = [insert(1), insert(1), UNDO, insert(1), go_to(0), insert(1), insert(1), go_to(3), go_to(2), go_to(5)]

    def test_the_root_alone(self):
        self.assertEqual(run(LEAVES), [[1, 0]])
        self.assertEqual(run(start([1]), LEAVES), [[1], [1, 0]])

    def test_the_root_with_a_child_is_none(self):
        self.assertEqual(run(insert(1), LEAVES, UNDO, LEAVES), [[1, 1], [1, 1], [0, 0], [1, 1]])

    def test_several_in_increasing_order(self):
        self.assertEqual(run_after(self.tree, LEAVES), [[3, 2, 3, 5]])

    def test_wherever_one_is(self):
        for state in range(6):
            self.assertEqual(run_after(self.tree + [go_to(state)], LEAVES), [[3, 2, 3, 5]])

    def test_a_new_branch(self):
        self.assertEqual(run_after(self.tree, go_to(4), insert(1), LEAVES, go_to(2), insert(1), LEAVES),
                         [[1, 0, 1], [6, 2], [4, 2, 3, 5, 6], [2, 2, 2], [7, 3], [4, 3, 5, 6, 7]])

    def test_many(self):
        self.assertEqual(run(*[insert(1), UNDO] * 39, LEAVES)[-1], [39, *range(1, 40)])

    def test_a_chain_has_one(self):
        self.assertEqual(run(*[insert(1)] * 79, LEAVES)[-1], [1, 79])

    def test_leaves_the_current_state(self):
        self.assertEqual(run_after(self.tree, LEAVES, UNDO, LEAVES, REDO), [[3, 2, 3, 5], [4, 1], [3, 2, 3, 5], [5, 2]])

    def test_kept_ones_too(self):
        self.assertEqual(run_after(self.tree, set_kept(2, 1), set_kept(4, 1), LEAVES), [[0], [0], [3, 2, 3, 5]])

    def test_a_revert_makes_a_leaf(self):
        self.assertEqual(run(insert(1), revert(1), LEAVES), [[1, 1], [2, 0], [1, 2]])

    def test_inside_a_group(self):
        self.assertEqual(run(OPEN_GROUP, insert(1), LEAVES, CLOSE_GROUP, LEAVES),
                         [[1], [1, 1], [1, 0], [1], [1, 1]])
        self.assertEqual(run_after(self.tree, go_to(0), OPEN_GROUP, change(0, 0), LEAVES, CLOSE_GROUP, LEAVES),
                         [[2, 0, 0], [6], [6, 0], [3, 2, 3, 5], [6], [4, 2, 3, 5, 6]])

    def test_after_start(self):
        self.assertEqual(run_after(self.tree, start(), LEAVES, insert(1), LEAVES), [[0], [1, 0], [1, 1], [1, 1]])


class LeavesAfterForget(unittest.TestCase):
    tree = Leaves.tree

    def test_one_deleted(self):
        self.assertEqual(run_after(self.tree, forget(5), LEAVES), [[1, 2], [2, 3, 5]])

    def test_one_that_arose(self):
        self.assertEqual(run_after(self.tree, go_to(0), forget(3), LEAVES), [[2, 0, 0], [3, 2, 3, 1], [1, 5]])
        self.assertEqual(run_after(self.tree, forget(4), LEAVES), [[2, 2, 3], [2, 1, 5]])

    def test_the_last_state_is_root_and_leaf(self):
        self.assertEqual(run_after(self.tree, forget(1), LEAVES), [[5, 2, 3, 1, 0, 4], [1, 5]])

    def test_the_root_has_become_a_leaf(self):
        self.assertEqual(run_after(self.tree, go_to(0), forget(1), LEAVES), [[2, 0, 0], [5, 2, 3, 1, 5, 4], [1, 0]])


if __name__ == "__main__":
    unittest.main()
