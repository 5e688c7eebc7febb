import unittest

from tests.calls import (CLOSE_GROUP, MOST, OPEN_GROUP, REDO, UNDO, change, go_to, insert, run, run_after, start,
                         wait)


class Change(unittest.TestCase):
    def test_inserts_and_removes(self):
        self.assertEqual(run(change(0, 0, [1, 2, 3]), change(1, 1), change(2, 0, [4]), change(0, 2, [5, 6, 7])),
                         [[1, 3], [2, 2], [3, 3], [4, 4]])

    def test_new_state_is_a_child_of_the_current_one(self):
        self.assertEqual(run(insert(1), insert(2), insert(3), UNDO, UNDO, UNDO, UNDO),
                         [[1, 1], [2, 3], [3, 6], [2, 3], [1, 1], [0, 0], [-7]])

    def test_a_new_branch_loses_no_state(self):
        self.assertEqual(run(insert(1), UNDO, insert(2), UNDO, insert(3), go_to(1), go_to(2), go_to(3)),
                         [[1, 1], [0, 0], [2, 2], [0, 0], [3, 3], [1, 1, 1], [1, 1, 2], [1, 1, 3]])

    def test_new_states_always_have_new_numbers(self):
        self.assertEqual(run(insert(1), insert(1), UNDO, insert(5), go_to(0), insert(4)),
                         [[1, 1], [2, 2], [1, 1], [3, 6], [2, 0, 0], [4, 4]])

    def test_up_to_the_end_of_the_text(self):
        self.assertEqual(run(start([1] * 5), change(2, 3)), [[5], [1, 2]])
        self.assertEqual(run(start([1] * 5), change(0, 5)), [[5], [1, 0]])
        self.assertEqual(run(start([1] * 5), change(5, 0)), [[5], [1, 5]])
        self.assertEqual(run(start([1] * 5), change(5, 0, [9])), [[5], [1, 6]])
        self.assertEqual(run(start([1] * 5), change(4, 1, [9, 9])), [[5], [1, 6]])

    def test_beyond_the_end_of_the_text(self):
        self.assertEqual(run(start([1] * 5), change(2, 4)), [[5], [-1]])
        self.assertEqual(run(start([1] * 5), change(0, 6)), [[5], [-1]])
        self.assertEqual(run(start([1] * 5), change(6, 0)), [[5], [-1]])
        self.assertEqual(run(start([1] * 5), change(6, 0, [9])), [[5], [-1]])
        self.assertEqual(run(start([1] * 5), change(5, 1, [9, 9])), [[5], [-1]])
        self.assertEqual(run(change(1, 0, [1])), [[-1]])
        self.assertEqual(run(change(0, 1)), [[-1]])

    def test_greatest_numbers(self):
        for position, removed in ((MOST, 0), (0, MOST), (MOST, 1), (1, MOST), (MOST, MOST), (2, MOST - 1)):
            self.assertEqual(run(start([1] * 5), change(position, removed, [9])), [[5], [-1]])

    def test_the_length_counts_that_the_text_has_now(self):
        self.assertEqual(run(start([1] * 5), insert(3), change(7, 1), UNDO, UNDO, change(6, 0), change(5, 0)),
                         [[5], [1, 8], [2, 7], [1, 8], [0, 5], [-1], [3, 5]])

    def test_bytes(self):
        self.assertEqual(run(change(0, 0, [0, 255])), [[1, 2]])
        self.assertEqual(run(change(0, 0, [256])), [[-1]])
        self.assertEqual(run(change(0, 0, [MOST])), [[-1]])
        self.assertEqual(run(change(0, 0, [256, 1, 2])), [[-1]])
        self.assertEqual(run(change(0, 0, [1, 256, 2])), [[-1]])
        self.assertEqual(run(change(0, 0, [1, 2, 256])), [[-1]])

    def test_a_change_of_nothing_is_one_too(self):
        self.assertEqual(run(change(0, 0), change(0, 0), UNDO, UNDO, UNDO, REDO),
                         [[1, 0], [2, 0], [1, 0], [0, 0], [-7], [1, 0]])
        self.assertEqual(run(start([1, 2]), change(1, 0), UNDO, REDO), [[2], [1, 2], [0, 2], [1, 2]])


class LongTexts(unittest.TestCase):
    def test_inserted_at_once(self):
        self.assertEqual(run(insert(300)), [[1, 300]])
        self.assertEqual(run(insert(301)), [[-6]])
        self.assertEqual(run(insert(350)), [[-6]])

    def test_one_more(self):
        self.assertEqual(run(start([1] * 299), insert(1), insert(1)), [[299], [1, 300], [-6]])
        self.assertEqual(run(start([1] * 300), change(300, 0, [1])), [[300], [-6]])
        self.assertEqual(run(start([1] * 300), change(0, 0)), [[300], [1, 300]])

    def test_removed_and_inserted_at_once(self):
        self.assertEqual(run(start([1] * 300), change(0, 10, [2] * 10)), [[300], [1, 300]])
        self.assertEqual(run(start([1] * 300), change(0, 10, [2] * 11)), [[300], [-6]])
        self.assertEqual(run(start([1] * 300), change(0, 300, [2] * 300)), [[300], [1, 300]])
        self.assertEqual(run(start([1] * 300), change(0, 300, [2] * 301)), [[300], [-6]])
        self.assertEqual(run(start([1] * 10), change(5, 5, [2] * 295)), [[10], [1, 300]])
        self.assertEqual(run(start([1] * 10), change(5, 5, [2] * 296)), [[10], [-6]])
        self.assertEqual(run(start([1] * 60), change(0, 50, [2] * 301)), [[60], [-6]])

    def test_in_a_group(self):
        self.assertEqual(run(OPEN_GROUP, insert(200), insert(101), insert(100), insert(1), change(0, 1, [1]),
                             change(0, 1, [1, 1]), CLOSE_GROUP, UNDO),
                         [[1], [1, 200], [-6], [1, 300], [-6], [1, 300], [-6], [1], [0, 0]])


class BothErrors(unittest.TestCase):
    def test_position_and_length(self):
        self.assertEqual(run(change(1, 0, [1] * 301)), [[-1]])
        self.assertEqual(run(change(0, 1, [1] * 350)), [[-1]])
        self.assertEqual(run(start([1] * 300), change(301, 0, [1])), [[300], [-1]])
        self.assertEqual(run(start([1] * 300), change(300, 1, [1, 1])), [[300], [-1]])

    def test_byte_and_length(self):
        self.assertEqual(run(change(0, 0, [256] * 301)), [[-1]])
        self.assertEqual(run(change(0, 0, [1] * 300 + [256])), [[-1]])
        self.assertEqual(run(start([1] * 300), change(0, 0, [256])), [[300], [-1]])

    def test_position_and_byte(self):
        self.assertEqual(run(change(1, 0, [256])), [[-1]])

    def test_in_a_group(self):
        self.assertEqual(run(OPEN_GROUP, insert(300), change(300, 1, [1, 1]), change(0, 0, [256]), insert(1)),
                         [[1], [1, 300], [-1], [-1], [-6]])


class RefusedChange(unittest.TestCase):
    wrong = [(change(4, 0), -1), (change(0, 4), -1), (change(0, 0, [256]), -1), (change(0, 1, [300]), -1),
             (insert(298), -6), (change(0, 3, [1] * 301), -6), (change(9, 0, [1] * 301), -1)]

    def test_outside_of_a_group(self):
        before = [start([1] * 2), insert(1), insert(1), UNDO]
        for wrong, code in self.wrong:
            self.assertEqual(run_after(before, wrong, REDO, UNDO, UNDO, UNDO, go_to(3)),
                             [[code], [2, 4], [1, 3], [0, 2], [-7], [-2]])
            self.assertEqual(run_after(before, wrong, change(3, 0), UNDO), [[code], [3, 3], [1, 3]])

    def test_inside_a_group(self):
        before = [start([1]), OPEN_GROUP, insert(2)]
        for wrong, code in self.wrong:
            self.assertEqual(run_after(before, wrong, change(3, 0, [5]), CLOSE_GROUP, UNDO, REDO),
                             [[code], [1, 4], [1], [0, 1], [1, 4]])
            self.assertEqual(run_after(before, wrong, CLOSE_GROUP, UNDO, REDO), [[code], [1], [0, 1], [1, 3]])

    def test_first_in_a_group(self):
        before = [start([1] * 3), OPEN_GROUP]
        for wrong, code in self.wrong:
            self.assertEqual(run_after(before, wrong, CLOSE_GROUP, UNDO, insert(1)), [[code], [0], [-7], [1, 4]])


class TextsOfStates(unittest.TestCase):
    def test_no_call_but_start_changes_the_length_of_a_state(self):
        before = [start([1] * 4), insert(3), insert(5), UNDO, change(1, 6), go_to(0), OPEN_GROUP, insert(2),
                  change(0, 1), CLOSE_GROUP, wait(3), UNDO, REDO]
        self.assertEqual(run_after(before, go_to(0), go_to(1), go_to(2), go_to(3), go_to(4)),
                         [[1, 0, 4], [0, 1, 7], [0, 1, 12], [1, 1, 1], [2, 1, 5]])

    def test_changes_of_a_group_leave_the_states(self):
        self.assertEqual(run(insert(4), OPEN_GROUP, change(0, 2), change(0, 2), CLOSE_GROUP, UNDO, UNDO, REDO, REDO),
                         [[1, 4], [2], [2, 2], [2, 0], [2], [1, 4], [0, 0], [1, 4], [2, 0]])


if __name__ == "__main__":
    unittest.main()
