import unittest

from tests.calls import (CLOSE_GROUP, GET_TEXT, MOST, OPEN_GROUP, REDO, UNDO, change, forget, go_to, insert, revert,
                         run, run_after, set_kept, start, state_info, wait)


def infos(*states):
    return [state_info(state) for state in states]


class StateInfo(unittest.TestCase):
    # 0 has the children 1, 3 and 6, 1 has 2, 3 has 4 and 5; 4 and 5 are groups, with three changes and one.
    tree = [wait(10), insert(1), insert(1), go_to(0), wait(5), insert(1), OPEN_GROUP, insert(1), change(0, 2),
            wait(2), change(0, 0), CLOSE_GROUP, UNDO, OPEN_GROUP, change(0, 1), CLOSE_GROUP, go_to(0), insert(1)]

    def test_new_session(self):
        self.assertEqual(run(state_info(0)), [[0, 0, 0, 0, 0, 0]])

    def test_root(self):
        self.assertEqual(run(start([1, 2]), wait(9), state_info(0), insert(1), state_info(0)),
                         [[2], [9], [0, 0, 0, 0, 0, 0], [1, 3], [0, 0, 0, 0, 0, 1, 1]])

    def test_tree(self):
        self.assertEqual(run_after(self.tree, *infos(0, 1, 2, 3, 4, 5, 6)), [
            [0, 0, 0, 0, 0, 3, 1, 3, 6],
            [1, 10, 1, 0, 1, 1, 2],
            [2, 10, 2, 0, 1, 0],
            [1, 15, 1, 0, 1, 2, 4, 5],
            [4, 17, 2, 0, 3, 0],
            [4, 17, 2, 0, 1, 0],
            [1, 17, 1, 0, 1, 0],
        ])

    def test_is_the_same_wherever_one_is(self):
        answered = run_after(self.tree, *infos(0, 1, 2, 3, 4, 5, 6))
        for current in range(7):
            self.assertEqual(run_after(self.tree + [go_to(current)], *infos(0, 1, 2, 3, 4, 5, 6)), answered)

    def test_leaves_the_current_state_and_the_preferred_child(self):
        self.assertEqual(run_after(self.tree, go_to(3), state_info(0), state_info(2), UNDO, REDO, REDO),
                         [[1, 1, 1], [0, 0, 0, 0, 0, 3, 1, 3, 6], [2, 10, 2, 0, 1, 0], [0, 0], [3, 1], [5, 0]])

    def test_children_in_increasing_order_not_in_that_of_the_visits(self):
        before = [insert(1), UNDO, insert(2), UNDO, insert(3), UNDO, insert(4), go_to(3), go_to(1), UNDO]
        self.assertEqual(run_after(before, state_info(0)), [[0, 0, 0, 0, 0, 4, 1, 2, 3, 4]])

    def test_depth_counts_the_steps_from_the_root(self):
        answered = run_after([insert(1)] * 30, *infos(*range(31)))
        for state in range(30):
            self.assertEqual(answered[state], [state, 0, state, 0, min(state, 1), 1, state + 1])
        self.assertEqual(answered[30], [30, 0, 30, 0, 1, 0])

    def test_a_change_of_nothing_counts_as_one(self):
        self.assertEqual(run(change(0, 0), state_info(1)), [[1, 0], [1, 0, 1, 0, 1, 0]])
        self.assertEqual(run(OPEN_GROUP, change(0, 0), change(0, 0), CLOSE_GROUP, state_info(1)),
                         [[1], [1, 0], [1, 0], [1], [1, 0, 1, 0, 2, 0]])

    def test_a_refused_change_does_not_count(self):
        self.assertEqual(run(OPEN_GROUP, insert(1), change(0, 2), insert(300), insert(1), CLOSE_GROUP, state_info(1)),
                         [[1], [1, 1], [-1], [-6], [1, 2], [1], [1, 0, 1, 0, 2, 0]])

    def test_a_revert_has_one_change(self):
        self.assertEqual(run(wait(1), insert(1), wait(1), revert(1), state_info(2), state_info(1)),
                         [[1], [1, 1], [2], [2, 0], [2, 2, 2, 0, 1, 0], [1, 1, 1, 0, 1, 1, 2]])

    def test_latest_time(self):
        self.assertEqual(run(wait(1000000), insert(1), state_info(1)), [[1000000], [1, 1], [1, 1000000, 1, 0, 1, 0]])

    def test_no_such_state(self):
        self.assertEqual(run(state_info(1)), [[-2]])
        for number in (7, 8, 80, MOST):
            self.assertEqual(run_after(self.tree, state_info(number), UNDO), [[-2], [0, 0]])

    def test_after_start(self):
        self.assertEqual(run_after(self.tree, start([1]), *infos(0, 1, 6)), [[1], [0, 0, 0, 0, 0, 0], [-2], [-2]])


class KeptStates(unittest.TestCase):
    def test_kept(self):
        self.assertEqual(run(insert(1), insert(1), set_kept(1, 1), *infos(0, 1, 2)),
                         [[1, 1], [2, 2], [0], [0, 0, 0, 0, 0, 1, 1], [1, 0, 1, 1, 1, 1, 2], [2, 0, 2, 0, 1, 0]])

    def test_kept_root(self):
        self.assertEqual(run(set_kept(0, 1), state_info(0), insert(1), *infos(0, 1)),
                         [[0], [0, 0, 0, 1, 0, 0], [1, 1], [0, 0, 0, 1, 0, 1, 1], [1, 0, 1, 0, 1, 0]])


class InsideAGroup(unittest.TestCase):
    before = [insert(1), wait(4), OPEN_GROUP, insert(2), insert(3)]

    def test_the_current_state_is_as_before(self):
        self.assertEqual(run_after(self.before, *infos(0, 1)), [[0, 0, 0, 0, 0, 1, 1], [1, 0, 1, 0, 1, 0]])

    def test_the_state_of_the_group_is_not_there_yet(self):
        self.assertEqual(run_after(self.before, state_info(2), CLOSE_GROUP, *infos(1, 2)),
                         [[-2], [2], [1, 0, 1, 0, 1, 1, 2], [2, 4, 2, 0, 2, 0]])


class AfterForget(unittest.TestCase):
    # A chain of 0 to 3 with the times 1, 2, 3; 3 has the children 4 and 5, and 5 is current.
    tree = [wait(1), insert(1), wait(1), insert(1), wait(1), insert(1), insert(1), UNDO, insert(2), set_kept(4, 1)]

    def test_new_root(self):
        self.assertEqual(run_after(self.tree, forget(5), *infos(0, 1, 2, 3, 4, 5)),
                         [[1, 0], [-2], [0, 1, 0, 0, 0, 1, 2], [2, 2, 1, 0, 1, 1, 3], [3, 3, 2, 0, 1, 2, 4, 5],
                          [4, 3, 3, 1, 1, 0], [4, 3, 3, 0, 1, 0]])

    def test_new_root_several_times(self):
        self.assertEqual(run_after(self.tree, forget(1), *infos(0, 1, 2, 3, 4, 5)),
                         [[3, 0, 1, 2], [-2], [-2], [-2], [0, 3, 0, 0, 0, 2, 4, 5],
                          [4, 3, 1, 1, 1, 0], [4, 3, 1, 0, 1, 0]])
        self.assertEqual(run_after(self.tree, forget(5), forget(4), *infos(1, 2, 3)),
                         [[1, 0], [1, 1], [-2], [0, 2, 0, 0, 0, 1, 3], [3, 3, 1, 0, 1, 2, 4, 5]])

    def test_new_root_from_a_group(self):
        self.assertEqual(run(OPEN_GROUP, insert(1), wait(8), insert(1), CLOSE_GROUP, insert(1), forget(2),
                             state_info(1), state_info(2)),
                         [[1], [1, 1], [8], [1, 2], [1], [2, 3], [1, 0], [0, 8, 0, 0, 0, 1, 2], [2, 8, 1, 0, 1, 0]])

    def test_new_root_stays_kept(self):
        self.assertEqual(run_after(self.tree, set_kept(2, 1), forget(1), state_info(2), state_info(3), GET_TEXT),
                         [[0], [2, 0, 1], [0, 2, 0, 1, 0, 1, 3], [3, 3, 1, 0, 1, 2, 4, 5], [5, 7, 7, 7, 7, 7]])

    def test_deleted_children(self):
        self.assertEqual(run(insert(1), UNDO, insert(1), UNDO, insert(1), UNDO, forget(2), state_info(0)),
                         [[1, 1], [0, 0], [2, 1], [0, 0], [3, 1], [0, 0], [2, 1, 2], [0, 0, 0, 0, 0, 1, 3]])
        self.assertEqual(run(insert(1), UNDO, insert(1), UNDO, insert(1), UNDO, set_kept(2, 1), forget(1),
                             state_info(0), state_info(2)),
                         [[1, 1], [0, 0], [2, 1], [0, 0], [3, 1], [0, 0], [0], [2, 1, 3],
                          [0, 0, 0, 0, 0, 1, 2], [1, 0, 1, 1, 1, 0]])


if __name__ == "__main__":
    unittest.main()
