import unittest

from tests.calls import (CLOSE_GROUP, GET_TEXT, MOST, OPEN_GROUP, REDO, UNDO, ago, go_to, insert, revert, run,
                         run_after, start, wait)

# 0 has the child 1, 1 has 2 and 4, 2 has 3; a text is as long as its state's number.
# The times are 0, 10, 20, 20 and 35, the clock is 40, and 4 is current.
TREE = [wait(10), insert(1), wait(10), insert(1), insert(1), UNDO, UNDO, wait(15), insert(3), wait(5)]


class Ago(unittest.TestCase):
    def test_tree(self):
        self.assertEqual(run(*TREE), [[10], [1, 1], [20], [2, 2], [3, 3], [2, 2], [1, 1], [35], [4, 4], [40]])

    def test_every_time(self):
        for ticks, answer in ((0, [4, 0, 0, 4]), (1, [4, 0, 0, 4]), (4, [4, 0, 0, 4]),
                              (6, [3, 1, 2, 3]), (19, [3, 1, 2, 3]),
                              (22, [1, 1, 0, 1]), (29, [1, 1, 0, 1]),
                              (32, [0, 2, 0, 0]), (39, [0, 2, 0, 0])):
            self.assertEqual(run_after(TREE, ago(ticks), go_to(answer[0])), [answer, [0, 0, answer[3]]])

    def test_time_plus_ticks_just_at_the_clock_and_one_above(self):
        self.assertEqual(run_after(TREE, ago(5)), [[4, 0, 0, 4]])
        self.assertEqual(run_after(TREE, ago(6)), [[3, 1, 2, 3]])
        self.assertEqual(run_after(TREE, ago(20)), [[3, 1, 2, 3]])
        self.assertEqual(run_after(TREE, ago(21)), [[1, 1, 0, 1]])
        self.assertEqual(run_after(TREE, ago(30)), [[1, 1, 0, 1]])
        self.assertEqual(run_after(TREE, ago(31)), [[0, 2, 0, 0]])
        self.assertEqual(run_after(TREE, ago(40)), [[0, 2, 0, 0]])
        self.assertEqual(run_after(TREE, ago(41)), [[-7]])

    def test_above_every_time(self):
        self.assertEqual(run(ago(1)), [[-7]])
        self.assertEqual(run(ago(MOST)), [[-7]])
        self.assertEqual(run_after(TREE, ago(42), ago(1000001), ago(MOST), UNDO), [[-7], [-7], [-7], [1, 1]])

    def test_0_ticks_before_anything_else(self):
        self.assertEqual(run(ago(0)), [[0, 0, 0, 0]])
        self.assertEqual(run(start([1, 2]), ago(0), UNDO), [[2], [0, 0, 0, 2], [-7]])

    def test_several_states_of_one_time(self):
        self.assertEqual(run(insert(1), insert(1), go_to(0), insert(3), go_to(1), ago(0), ago(0)),
                         [[1, 1], [2, 2], [2, 0, 0], [3, 3], [1, 1, 1], [3, 1, 1, 3], [3, 0, 0, 3]])

    def test_from_every_state(self):
        for state, up, down in ((0, 0, 3), (1, 0, 2), (2, 0, 1), (3, 0, 0), (4, 1, 2)):
            self.assertEqual(run_after(TREE, go_to(state), ago(15))[1], [3, up, down, 3])

    def test_the_current_state_itself(self):
        self.assertEqual(run_after(TREE, ago(2), ago(2), UNDO, REDO), [[4, 0, 0, 4], [4, 0, 0, 4], [1, 1], [4, 4]])
        self.assertEqual(run_after(TREE, ago(6), ago(6), UNDO, REDO), [[3, 1, 2, 3], [3, 0, 0, 3], [2, 2], [3, 3]])

    def test_the_state_counts_that_is_greatest_not_the_way_to_the_current_one(self):
        self.assertEqual(run_after(TREE, go_to(1), ago(0), go_to(2), ago(21)),
                         [[1, 0, 1], [4, 0, 1, 4], [1, 1, 2], [1, 1, 0, 1]])

    def test_leaves_the_clock(self):
        self.assertEqual(run_after(TREE, ago(30), wait(0), ago(30), wait(1), ago(30)),
                         [[1, 1, 0, 1], [40], [1, 0, 0, 1], [41], [1, 0, 0, 1]])

    def test_more_states_come_into_reach_as_the_clock_goes_on(self):
        self.assertEqual(run(insert(1), wait(5), insert(1), ago(1), wait(1), ago(1), ago(6), ago(7)),
                         [[1, 1], [5], [2, 2], [1, 1, 0, 1], [6], [2, 0, 1, 2], [1, 1, 0, 1], [-7]])

    def test_to_the_last_clock(self):
        before = [insert(1), wait(1000000), insert(1)]
        self.assertEqual(run_after(before, ago(1)), [[1, 1, 0, 1]])
        self.assertEqual(run_after(before, ago(1000000)), [[1, 1, 0, 1]])
        self.assertEqual(run_after(before, ago(1000001)), [[-7]])

    def test_the_text_is_that_of_the_state(self):
        self.assertEqual(run(start([9, 8]), wait(3), insert(1), ago(3), GET_TEXT),
                         [[2], [3], [1, 3], [0, 1, 0, 2], [2, 9, 8]])


class TimesOfStates(unittest.TestCase):
    def test_a_group_has_the_time_at_which_it_is_closed(self):
        before = [wait(5), OPEN_GROUP, wait(5), insert(1), wait(5), CLOSE_GROUP, wait(2)]
        self.assertEqual(run_after(before, ago(2)), [[1, 0, 0, 1]])
        self.assertEqual(run_after(before, ago(3)), [[0, 1, 0, 0]])

    def test_a_revert_has_the_time_at_which_it_is_made(self):
        before = [insert(2), wait(7), revert(1), wait(4)]
        self.assertEqual(run_after(before, ago(4)), [[2, 0, 0, 0]])
        self.assertEqual(run_after(before, ago(5)), [[1, 1, 0, 2]])

    def test_start_sets_the_time_of_state_0(self):
        self.assertEqual(run(wait(30), insert(1), start([5]), ago(1), ago(0)), [[30], [1, 1], [1], [-7], [0, 0, 0, 1]])


class PreferredChildAfterAgo(unittest.TestCase):
    def test_for_every_state_on_the_way(self):
        self.assertEqual(run_after(TREE, go_to(0), REDO, REDO), [[2, 0, 0], [1, 1], [4, 4]])
        self.assertEqual(run_after(TREE, ago(6), UNDO, UNDO, UNDO, REDO, REDO, REDO),
                         [[3, 1, 2, 3], [2, 2], [1, 1], [0, 0], [1, 1], [2, 2], [3, 3]])
        self.assertEqual(run_after(TREE, ago(6), go_to(0), REDO, REDO, REDO),
                         [[3, 1, 2, 3], [3, 0, 0], [1, 1], [2, 2], [3, 3]])

    def test_not_for_the_new_current_state(self):
        self.assertEqual(run_after(TREE, ago(21), REDO), [[1, 1, 0, 1], [4, 4]])
        self.assertEqual(run_after(TREE, go_to(3), ago(21), REDO), [[1, 2, 3], [1, 2, 0, 1], [2, 2]])

    def test_other_branches_keep_theirs(self):
        self.assertEqual(run(insert(1), insert(1), UNDO, insert(2), go_to(2), go_to(0), wait(1), insert(7), ago(0),
                             go_to(1), REDO),
                         [[1, 1], [2, 2], [1, 1], [3, 3], [1, 1, 2], [2, 0, 0], [1], [4, 7], [4, 0, 0, 7],
                          [1, 1, 1], [2, 2]])


class RefusedAgo(unittest.TestCase):
    def test_open_group_comes_first(self):
        for ticks in (0, 5, 41, MOST):
            self.assertEqual(run_after(TREE + [OPEN_GROUP], ago(ticks), CLOSE_GROUP, UNDO), [[-9], [4], [1, 1]])
            self.assertEqual(run_after(TREE + [OPEN_GROUP, insert(1)], ago(ticks), GET_TEXT, CLOSE_GROUP),
                             [[-9], [5, 7, 7, 7, 7, 7], [5]])

    def test_changes_nothing(self):
        self.assertEqual(run_after(TREE, go_to(3), ago(41), GET_TEXT, wait(0), UNDO, UNDO, REDO, REDO),
                         [[1, 2, 3], [-7], [3, 7, 7, 7], [40], [2, 2], [1, 1], [2, 2], [3, 3]])


if __name__ == "__main__":
    unittest.main()
