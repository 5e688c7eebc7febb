import unittest

from tests.calls import (CLOSE_GROUP, GET_TEXT, LEAVES, MOST, OPEN_GROUP, UNDO, forget, go_to, insert, path, run,
                         run_after, set_kept, start, state_info, wait)

CHAIN = [insert(1), insert(1), insert(1)]
# 0 has the children 1 and 4, 1 has 2, 2 has 3, 4 has 5, and 5 is current.
FORK = CHAIN + [go_to(0), insert(1), insert(1)]
# 0 has the children 1, 3 and 5, 1 has 2, 3 has 4, and 5 is current.
FAN = [insert(1), insert(1), go_to(0), insert(1), insert(1), go_to(0), insert(1)]


def left(before, highest):
    """The numbers of the states that are there after the calls."""
    answered = run_after(before, *[state_info(state) for state in range(highest + 1)])
    return [state for state, info in enumerate(answered) if info != [-2]]


class Limits(unittest.TestCase):
    def test_nothing_to_delete(self):
        self.assertEqual(run(forget(1), forget(2), forget(MOST)), [[0], [0], [0]])

    def test_of_the_number_of_states_and_above(self):
        for limit in (6, 7, 8, MOST):
            self.assertEqual(run_after(FORK, forget(limit)), [[0]])
            self.assertEqual(left(FORK + [forget(limit)], 8), [0, 1, 2, 3, 4, 5])

    def test_every_limit(self):
        for limit, deleted in ((5, [3]), (4, [3, 2]), (3, [3, 2, 1]), (2, [3, 2, 1, 0]), (1, [3, 2, 1, 0, 4])):
            self.assertEqual(run_after(FORK, forget(limit)), [[len(deleted), *deleted]])
            self.assertEqual(left(FORK + [forget(limit)], 8), [state for state in range(6) if state not in deleted])

    def test_0(self):
        self.assertEqual(run(forget(0)), [[-1]])
        self.assertEqual(run_after(FORK, forget(0), LEAVES, UNDO), [[-1], [2, 3, 5], [4, 1]])
        self.assertEqual(left(FORK + [forget(0)], 8), [0, 1, 2, 3, 4, 5])

    def test_one_limit_behind_another(self):
        self.assertEqual(run_after(FORK, forget(5), forget(5), forget(3), forget(4), forget(1), forget(1)),
                         [[1, 3], [0], [2, 2, 1], [0], [2, 0, 4], [0]])


class Leaves(unittest.TestCase):
    def test_smallest_number_first(self):
        self.assertEqual(run_after([insert(1), UNDO] * 6, forget(1)), [[6, 1, 2, 3, 4, 5, 6]])
        self.assertEqual(run_after([insert(1), UNDO] * 6, forget(3)), [[4, 1, 2, 3, 4]])

    def test_one_that_arises_is_next_if_its_number_is_the_smallest(self):
        self.assertEqual(run_after(FAN, forget(5)), [[1, 2]])
        self.assertEqual(run_after(FAN, forget(4)), [[2, 2, 1]])
        self.assertEqual(run_after(FAN, forget(3)), [[3, 2, 1, 4]])
        self.assertEqual(run_after(FAN, forget(2)), [[4, 2, 1, 4, 3]])
        self.assertEqual(run_after(FAN, forget(1)), [[5, 2, 1, 4, 3, 0]])

    def test_one_that_has_a_child_left_is_not_next(self):
        before = [insert(1), insert(1), UNDO, insert(1), go_to(0), insert(1)]
        self.assertEqual(run_after(before, forget(3)), [[2, 2, 3]])
        self.assertEqual(run_after(before, forget(1)), [[4, 2, 3, 1, 0]])

    def test_the_current_state(self):
        self.assertEqual(run_after(FORK, go_to(3), forget(1), GET_TEXT, path(3, 3)),
                         [[2, 3, 3], [5, 5, 4, 0, 1, 2], [3, 7, 7, 7], [1, 3]])
        self.assertEqual(run_after(FAN, go_to(2), forget(1)), [[1, 2, 2], [5, 4, 3, 5, 0, 1]])
        self.assertEqual(run_after(FAN, go_to(1), forget(1)), [[1, 1, 1], [5, 2, 4, 3, 5, 0]])
        self.assertEqual(run_after(FAN, go_to(4), forget(1)), [[1, 2, 2], [5, 2, 1, 5, 0, 3]])

    def test_the_current_state_becomes_a_leaf(self):
        self.assertEqual(run_after(FORK, go_to(2), forget(1)), [[2, 2, 2], [5, 3, 5, 4, 0, 1]])

    def test_a_kept_one(self):
        self.assertEqual(run_after(FAN, set_kept(2, 1), forget(1), LEAVES), [[0], [2, 4, 3], [2, 2, 5]])
        self.assertEqual(run_after(FAN, set_kept(4, 1), forget(1), LEAVES), [[0], [2, 2, 1], [2, 4, 5]])
        self.assertEqual(run_after(FAN, set_kept(2, 1), set_kept(4, 1), forget(1), LEAVES),
                         [[0], [0], [0], [3, 2, 4, 5]])

    def test_a_kept_one_that_becomes_a_leaf(self):
        self.assertEqual(run_after(FAN, set_kept(1, 1), forget(1), LEAVES), [[0], [3, 2, 4, 3], [2, 1, 5]])
        self.assertEqual(run_after(FORK, set_kept(2, 1), forget(1)), [[0], [1, 3]])

    def test_one_that_is_no_longer_kept(self):
        self.assertEqual(run_after(FAN, set_kept(2, 1), forget(1), set_kept(2, 0), forget(1)),
                         [[0], [2, 4, 3], [0], [3, 2, 1, 0]])

    def test_a_kept_one_counts_for_the_limit(self):
        self.assertEqual(run_after(FAN, set_kept(2, 1), forget(4)), [[0], [2, 4, 3]])
        self.assertEqual(run_after(FAN, set_kept(2, 1), forget(5)), [[0], [1, 4]])

    def test_all_but_the_root(self):
        self.assertEqual(run_after(FAN, go_to(0), forget(1), LEAVES), [[1, 0, 0], [5, 2, 1, 4, 3, 5], [1, 0]])
        self.assertEqual(run_after(CHAIN, go_to(0), forget(2)), [[3, 0, 0], [2, 3, 2]])


class Roots(unittest.TestCase):
    def test_one(self):
        self.assertEqual(run_after(CHAIN, forget(3), path(1, 3)), [[1, 0], [3, 1, 2, 3]])

    def test_several_one_behind_another(self):
        self.assertEqual(run_after(CHAIN, forget(2), path(2, 3)), [[2, 0, 1], [2, 2, 3]])
        self.assertEqual(run_after(CHAIN, forget(1), path(3, 3)), [[3, 0, 1, 2], [1, 3]])
        self.assertEqual(run_after([insert(1)] * 78, forget(1)), [[78, *range(78)]])

    def test_only_when_no_leaf_can_go(self):
        self.assertEqual(run_after(CHAIN, UNDO, forget(3)), [[2, 2], [1, 3]])
        self.assertEqual(run_after(CHAIN, UNDO, forget(2)), [[2, 2], [2, 3, 0]])
        self.assertEqual(run_after(CHAIN, UNDO, forget(1)), [[2, 2], [3, 3, 0, 1]])

    def test_kept(self):
        self.assertEqual(run_after(CHAIN, set_kept(0, 1), forget(1)), [[0], [0]])
        self.assertEqual(run_after(FORK, set_kept(0, 1), forget(1), path(0, 5)), [[0], [3, 3, 2, 1], [3, 0, 4, 5]])

    def test_kept_further_down(self):
        self.assertEqual(run_after(CHAIN, set_kept(1, 1), forget(1), path(1, 3)), [[0], [1, 0], [3, 1, 2, 3]])
        self.assertEqual(run_after(CHAIN, set_kept(2, 1), forget(1), path(2, 3)), [[0], [2, 0, 1], [2, 2, 3]])
        self.assertEqual(run_after(CHAIN, set_kept(3, 1), forget(1), path(3, 3)), [[0], [3, 0, 1, 2], [1, 3]])

    def test_current(self):
        self.assertEqual(run_after(CHAIN, set_kept(3, 1), go_to(0), forget(1), LEAVES), [[0], [3, 0, 0], [0], [1, 3]])
        self.assertEqual(run_after(CHAIN, set_kept(3, 1), go_to(1), forget(1), path(1, 3)),
                         [[0], [2, 0, 1], [1, 0], [3, 1, 2, 3]])

    def test_with_two_children(self):
        self.assertEqual(run_after(FORK, set_kept(3, 1), forget(1)), [[0], [0]])
        self.assertEqual(run_after(FORK, set_kept(1, 1), forget(1), path(1, 5)), [[0], [2, 3, 2], [4, 1, 0, 4, 5]])

    def test_with_two_children_further_down(self):
        before = [insert(1)] + [insert(1)] + [insert(1), UNDO, insert(1), set_kept(3, 1)]
        self.assertEqual(run_after(before, forget(1), path(3, 4)), [[2, 0, 1], [3, 3, 2, 4]])

    def test_with_one_child_left(self):
        self.assertEqual(run_after(FORK, forget(2), path(4, 5)), [[4, 3, 2, 1, 0], [2, 4, 5]])

    def test_the_only_state(self):
        self.assertEqual(run(start([1]), forget(1), GET_TEXT), [[1], [0], [1, 1]])
        self.assertEqual(run_after(CHAIN, forget(1), forget(1), GET_TEXT), [[3, 0, 1, 2], [0], [3, 7, 7, 7]])

    def test_the_new_root_keeps_number_time_and_text(self):
        before = [start([5]), wait(3), insert(1), wait(4), insert(1), wait(2), insert(1), UNDO, UNDO]
        self.assertEqual(run_after(before, go_to(2), forget(1), state_info(2), GET_TEXT, wait(0)),
                         [[0, 1, 3], [3, 3, 0, 1], [0, 7, 0, 0, 0, 0], [3, 7, 7, 5], [9]])


class RefusedForget(unittest.TestCase):
    def test_open_group(self):
        for limit in (1, 2, 6, MOST):
            self.assertEqual(run_after(FORK + [OPEN_GROUP], forget(limit), CLOSE_GROUP, LEAVES), [[-9], [5], [2, 3, 5]])

    def test_open_group_comes_first(self):
        self.assertEqual(run(OPEN_GROUP, forget(0)), [[1], [-9]])
        self.assertEqual(run_after(FORK + [OPEN_GROUP, insert(1)], forget(0), GET_TEXT, CLOSE_GROUP),
                         [[-9], [3, 7, 7, 7], [6]])

    def test_changes_nothing(self):
        for calls, code in (([forget(0)], -1), ([OPEN_GROUP, forget(1)], -9), ([OPEN_GROUP, forget(0)], -9)):
            self.assertEqual(run_after(FORK, *calls)[-1], [code])
            self.assertEqual(left(FORK + calls, 8), [0, 1, 2, 3, 4, 5])


if __name__ == "__main__":
    unittest.main()
