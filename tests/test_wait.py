import unittest

from tests.calls import CLOSE_GROUP, MOST, OPEN_GROUP, UNDO, go_to, insert, run, start, wait


class Wait(unittest.TestCase):
    def test_clock_adds_up(self):
        self.assertEqual(run(wait(1), wait(5), wait(0), wait(30)), [[1], [6], [6], [36]])

    def test_no_ticks(self):
        self.assertEqual(run(wait(0), wait(0)), [[0], [0]])

    def test_to_the_limit(self):
        self.assertEqual(run(wait(1000000)), [[1000000]])
        self.assertEqual(run(wait(999999), wait(1)), [[999999], [1000000]])
        self.assertEqual(run(wait(1000000), wait(0), wait(0)), [[1000000], [1000000], [1000000]])

    def test_beyond_the_limit(self):
        self.assertEqual(run(wait(1000001)), [[-1]])
        self.assertEqual(run(wait(MOST)), [[-1]])
        self.assertEqual(run(wait(1000000), wait(1)), [[1000000], [-1]])
        self.assertEqual(run(wait(600000), wait(600000)), [[600000], [-1]])
        self.assertEqual(run(wait(1), wait(MOST)), [[1], [-1]])

    def test_a_refused_wait_leaves_the_clock(self):
        self.assertEqual(run(wait(5), wait(1000000), wait(0), wait(999995), wait(1)),
                         [[5], [-1], [5], [1000000], [-1]])

    def test_clock_is_not_touched_by_other_calls(self):
        self.assertEqual(run(wait(5), insert(1), UNDO, go_to(1), OPEN_GROUP, CLOSE_GROUP, wait(2)),
                         [[5], [1, 1], [0, 0], [0, 1, 1], [2], [1], [7]])

    def test_while_a_group_is_open(self):
        self.assertEqual(run(OPEN_GROUP, wait(4), insert(2), wait(1000000), wait(0), insert(1), wait(6),
                             CLOSE_GROUP, wait(1), UNDO),
                         [[1], [4], [1, 2], [-1], [4], [1, 3], [10], [1], [11], [0, 0]])

    def test_creates_no_state(self):
        self.assertEqual(run(start([1]), wait(3), insert(1), wait(3), insert(1), wait(3), UNDO),
                         [[1], [3], [1, 2], [6], [2, 3], [9], [1, 2]])


if __name__ == "__main__":
    unittest.main()
