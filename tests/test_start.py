import unittest

from tests.calls import (CLOSE_GROUP, MOST, OPEN_GROUP, REDO, UNDO, change, earlier, go_to, insert, later,
                         run, run_after, start, wait)


class Start(unittest.TestCase):
    def test_lengths(self):
        self.assertEqual(run(start()), [[0]])
        self.assertEqual(run(start([1, 2, 3])), [[3]])
        self.assertEqual(run(start([1] * 299)), [[299]])
        self.assertEqual(run(start([1] * 300)), [[300]])

    def test_too_long(self):
        self.assertEqual(run(start([1] * 301)), [[-1]])
        self.assertEqual(run(start([1] * 350)), [[-1]])

    def test_bytes(self):
        self.assertEqual(run(start([0, 255])), [[2]])
        self.assertEqual(run(start([255] * 300)), [[300]])

    def test_no_bytes(self):
        self.assertEqual(run(start([256])), [[-1]])
        self.assertEqual(run(start([MOST])), [[-1]])
        self.assertEqual(run(start([256, 1, 2])), [[-1]])
        self.assertEqual(run(start([1, 256, 2])), [[-1]])
        self.assertEqual(run(start([1, 2, 256])), [[-1]])
        self.assertEqual(run(start([1] * 299 + [256])), [[-1]])
        self.assertEqual(run(start([256] * 301)), [[-1]])

    def test_text_counts_for_the_calls_behind(self):
        self.assertEqual(run(start([1] * 300), change(0, 301), change(0, 300), UNDO),
                         [[300], [-1], [1, 0], [0, 300]])

    def test_a_session_begins_as_after_start_with_no_bytes(self):
        self.assertEqual(run(change(0, 1)), [[-1]])
        self.assertEqual(run(UNDO), [[-7]])
        self.assertEqual(run(REDO), [[-7]])
        self.assertEqual(run(CLOSE_GROUP), [[-9]])
        self.assertEqual(run(wait(0)), [[0]])
        self.assertEqual(run(go_to(0)), [[0, 0, 0]])
        self.assertEqual(run(go_to(1)), [[-2]])
        self.assertEqual(run(insert(2)), [[1, 2]])


class StartInTheMiddle(unittest.TestCase):
    before = [start([1, 2, 3]), wait(9), insert(1), insert(2), UNDO, insert(3)]

    def test_states_are_gone(self):
        self.assertEqual(run_after(self.before, start([5]), go_to(1), go_to(2), go_to(3), go_to(0)),
                         [[1], [-2], [-2], [-2], [0, 0, 1]])

    def test_state_0_is_current_and_a_root_and_a_leaf(self):
        self.assertEqual(run_after(self.before, start([5]), UNDO, REDO, earlier(1), later(1)),
                         [[1], [-7], [-7], [-7], [-7]])

    def test_next_state_is_number_1_again(self):
        self.assertEqual(run_after(self.before, start([5, 6]), insert(4), UNDO, REDO),
                         [[2], [1, 6], [0, 2], [1, 6]])
        self.assertEqual(run_after(self.before, start([5, 6]), OPEN_GROUP), [[2], [1]])

    def test_clock_is_0_again(self):
        self.assertEqual(run_after(self.before, wait(1), start(), wait(0), wait(1000000)),
                         [[10], [0], [0], [1000000]])

    def test_length_is_that_of_the_new_text(self):
        self.assertEqual(run_after(self.before, start([5]), change(0, 2), change(1, 0, [6])),
                         [[1], [-1], [1, 2]])

    def test_open_group_is_gone(self):
        before = self.before + [OPEN_GROUP, insert(5)]
        self.assertEqual(run_after(before, start([5]), CLOSE_GROUP, UNDO), [[1], [-9], [-7]])
        self.assertEqual(run_after(before, start([5]), insert(1), UNDO), [[1], [1, 2], [0, 1]])
        self.assertEqual(run_after(before, start([5]), OPEN_GROUP, CLOSE_GROUP), [[1], [1], [0]])

    def test_start_with_no_bytes(self):
        self.assertEqual(run_after(self.before, start(), change(0, 1), insert(1)), [[0], [-1], [1, 1]])

    def test_start_again_and_again(self):
        self.assertEqual(run(start([1]), insert(1), start([1, 2]), insert(1), start(), insert(1)),
                         [[1], [1, 2], [2], [1, 3], [0], [1, 1]])


class RefusedStart(unittest.TestCase):
    wrong = [start([256]), start([1] * 301), start([MOST] * 350), start([1, 2, 300])]

    def test_states_stay(self):
        for wrong in self.wrong:
            self.assertEqual(run(start([1, 2]), insert(1), insert(1), UNDO, wrong, REDO, go_to(0), REDO, insert(3)),
                             [[2], [1, 3], [2, 4], [1, 3], [-1], [2, 4], [2, 0, 2], [1, 3], [3, 6]])

    def test_clock_stays(self):
        for wrong in self.wrong:
            self.assertEqual(run(wait(8), wrong, wait(1)), [[8], [-1], [9]])

    def test_group_stays(self):
        for wrong in self.wrong:
            self.assertEqual(run(OPEN_GROUP, insert(1), wrong, UNDO, insert(1), CLOSE_GROUP, UNDO),
                             [[1], [1, 1], [-1], [-9], [1, 2], [1], [0, 0]])

    def test_empty_beginning_stays(self):
        for wrong in self.wrong:
            self.assertEqual(run(wrong, change(0, 1), insert(1)), [[-1], [-1], [1, 1]])


if __name__ == "__main__":
    unittest.main()
