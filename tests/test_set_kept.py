import unittest

from tests.calls import (CLOSE_GROUP, GET_TEXT, MOST, OPEN_GROUP, REDO, UNDO, ago, change, earlier, forget, go_to,
                         insert, later, revert, run, run_after, set_kept, start, state_info)


def kept_states(before, states):
    """Which of these states are kept after the calls."""
    answered = run_after(before, *[state_info(state) for state in states])
    return [state for state, info in zip(states, answered) if info[3] == 1]


class SetKept(unittest.TestCase):
    # 0 has the children 1 and 3, 1 has 2, and 3 is current.
    tree = [insert(1), insert(1), go_to(0), insert(1)]

    def test_none_is_kept_at_first(self):
        self.assertEqual(kept_states(self.tree, range(4)), [])

    def test_1(self):
        for state in range(4):
            self.assertEqual(run_after(self.tree, set_kept(state, 1)), [[0]])
            self.assertEqual(kept_states(self.tree + [set_kept(state, 1)], range(4)), [state])

    def test_0(self):
        for state in range(4):
            kept = [set_kept(each, 1) for each in range(4)]
            self.assertEqual(run_after(self.tree + kept, set_kept(state, 0)), [[0]])
            self.assertEqual(kept_states(self.tree + kept + [set_kept(state, 0)], range(4)),
                             [each for each in range(4) if each != state])

    def test_0_at_first(self):
        self.assertEqual(run_after(self.tree, set_kept(1, 0), state_info(1)), [[0], [1, 0, 1, 0, 1, 1, 2]])

    def test_twice(self):
        self.assertEqual(run_after(self.tree, set_kept(2, 1), set_kept(2, 1), state_info(2)),
                         [[0], [0], [2, 0, 2, 1, 1, 0]])
        self.assertEqual(run_after(self.tree, set_kept(2, 1), set_kept(2, 1), set_kept(2, 0), state_info(2)),
                         [[0], [0], [0], [2, 0, 2, 0, 1, 0]])
        self.assertEqual(run_after(self.tree, set_kept(2, 1), set_kept(2, 0), set_kept(2, 0), set_kept(2, 1),
                                   state_info(2)),
                         [[0], [0], [0], [0], [2, 0, 2, 1, 1, 0]])

    def test_the_root(self):
        self.assertEqual(run(set_kept(0, 1), state_info(0), set_kept(0, 0), state_info(0)),
                         [[0], [0, 0, 0, 1, 0, 0], [0], [0, 0, 0, 0, 0, 0]])

    def test_inside_a_group(self):
        self.assertEqual(run_after(self.tree, OPEN_GROUP, insert(1), set_kept(3, 1), set_kept(4, 1), state_info(3),
                                   CLOSE_GROUP, state_info(3), state_info(4)),
                         [[4], [4, 2], [0], [-2], [1, 0, 1, 1, 1, 0], [4], [1, 0, 1, 1, 1, 1, 4], [4, 0, 2, 0, 1, 0]])

    def test_a_child_of_a_kept_state_is_not_kept(self):
        before = self.tree + [set_kept(3, 1), insert(1), revert(4), OPEN_GROUP, change(0, 0), CLOSE_GROUP]
        self.assertEqual(kept_states(before, range(7)), [3])

    def test_no_such_state(self):
        self.assertEqual(run(set_kept(1, 1), set_kept(1, 0)), [[-2], [-2]])
        for number in (4, 5, 80, MOST):
            for kept in (0, 1):
                self.assertEqual(run_after(self.tree, set_kept(number, kept)), [[-2]])
                self.assertEqual(kept_states(self.tree + [set_kept(number, kept)], range(4)), [])

    def test_of_a_state_that_is_not_there_yet(self):
        self.assertEqual(kept_states([set_kept(1, 1), insert(1)], range(2)), [])

    def test_leaves_the_current_state_and_the_preferred_child(self):
        self.assertEqual(run_after(self.tree, set_kept(2, 1), GET_TEXT, UNDO, set_kept(1, 1), REDO),
                         [[0], [1, 7], [0, 0], [0], [3, 1]])

    def test_stays_whatever_else_is_done(self):
        before = self.tree + [set_kept(1, 1), set_kept(3, 1), UNDO, REDO, go_to(2), earlier(1), later(2), ago(0),
                              revert(3), insert(3), start([256])]
        self.assertEqual(kept_states(before, range(6)), [1, 3])

    def test_start_resets_it(self):
        before = self.tree + [set_kept(state, 1) for state in range(4)] + [start([1]), insert(1), insert(1), insert(1)]
        self.assertEqual(kept_states(before, range(4)), [])

    def test_a_deleted_state(self):
        self.assertEqual(run_after(self.tree, forget(3), set_kept(2, 1), set_kept(2, 0), set_kept(1, 1), forget(1)),
                         [[1, 2], [-2], [-2], [0], [0]])

    def test_a_new_root_stays_kept(self):
        before = [insert(1), insert(1), set_kept(1, 1)]
        self.assertEqual(run_after(before, forget(1), state_info(1), set_kept(1, 0), forget(1), state_info(2)),
                         [[1, 0], [0, 0, 0, 1, 0, 1, 2], [0], [1, 1], [0, 0, 0, 0, 0, 0]])


if __name__ == "__main__":
    unittest.main()
