import unittest

from tests.calls import (CLOSE_GROUP, MOST, OPEN_GROUP, REDO, UNDO, earlier, go_to, insert, later, run, run_after,
                         start)

# 0 has the children 1 and 3, 1 has 2 and 5, 3 has 4; a text is as long as its state's number.
TREE = [insert(1), insert(1), UNDO, UNDO, insert(3), insert(1), go_to(1), insert(4)]


class Earlier(unittest.TestCase):
    def test_tree(self):
        self.assertEqual(run(*TREE), [[1, 1], [2, 2], [1, 1], [0, 0], [3, 3], [4, 4], [2, 1, 1], [5, 5]])

    def test_every_n(self):
        for n, answer in ((1, [4, 2, 2, 4]), (2, [3, 2, 1, 3]), (3, [2, 1, 1, 2]), (4, [1, 1, 0, 1]),
                          (5, [0, 2, 0, 0])):
            self.assertEqual(run_after(TREE, earlier(n), go_to(answer[0])), [answer, [0, 0, answer[3]]])

    def test_one_by_one_over_all_branches(self):
        self.assertEqual(run_after(TREE, *[earlier(1)] * 6),
                         [[4, 2, 2, 4], [3, 1, 0, 3], [2, 1, 2, 2], [1, 1, 0, 1], [0, 1, 0, 0], [-7]])

    def test_n_of_0(self):
        self.assertEqual(run(earlier(0)), [[-1]])
        self.assertEqual(run_after(TREE, earlier(0), UNDO), [[-1], [1, 1]])

    def test_n_too_great(self):
        self.assertEqual(run(earlier(1)), [[-7]])
        self.assertEqual(run(earlier(MOST)), [[-7]])
        self.assertEqual(run_after(TREE, earlier(6), earlier(MOST), UNDO), [[-7], [-7], [1, 1]])
        self.assertEqual(run_after(TREE, go_to(2), earlier(3), earlier(2)), [[1, 1, 2], [-7], [0, 2, 0, 0]])
        self.assertEqual(run_after(TREE, go_to(0), earlier(1), REDO), [[2, 0, 0], [-7], [1, 1]])

    def test_only_states_with_lesser_numbers(self):
        self.assertEqual(run_after(TREE, go_to(3), earlier(1), earlier(1)), [[2, 1, 3], [2, 1, 2, 2], [1, 1, 0, 1]])


class Later(unittest.TestCase):
    def test_every_n(self):
        before = TREE + [go_to(0)]
        for n, answer in ((1, [1, 0, 1, 1]), (2, [2, 0, 2, 2]), (3, [3, 0, 1, 3]), (4, [4, 0, 2, 4]),
                          (5, [5, 0, 2, 5])):
            self.assertEqual(run_after(before, later(n), go_to(answer[0])), [answer, [0, 0, answer[3]]])

    def test_one_by_one_over_all_branches(self):
        self.assertEqual(run_after(TREE, go_to(0), *[later(1)] * 6),
                         [[2, 0, 0], [1, 0, 1, 1], [2, 0, 1, 2], [3, 2, 1, 3], [4, 0, 1, 4], [5, 2, 2, 5], [-7]])

    def test_n_of_0(self):
        self.assertEqual(run(later(0)), [[-1]])
        self.assertEqual(run_after(TREE, later(0), UNDO, later(0), REDO), [[-1], [1, 1], [-1], [5, 5]])

    def test_n_too_great(self):
        self.assertEqual(run(later(1)), [[-7]])
        self.assertEqual(run(later(MOST)), [[-7]])
        self.assertEqual(run_after(TREE, later(1), UNDO), [[-7], [1, 1]])
        self.assertEqual(run_after(TREE, go_to(0), later(6), later(MOST), later(5)),
                         [[2, 0, 0], [-7], [-7], [5, 0, 2, 5]])
        self.assertEqual(run_after(TREE, go_to(3), later(3), later(2)), [[2, 1, 3], [-7], [5, 1, 2, 5]])

    def test_only_states_with_greater_numbers(self):
        self.assertEqual(run_after(TREE, go_to(2), later(1), later(2)), [[1, 1, 2], [3, 2, 1, 3], [5, 1, 2, 5]])


class EarlierAndLater(unittest.TestCase):
    def test_there_and_back(self):
        for state in range(6):
            for n in range(1, state + 1):
                there, back = run_after(TREE + [go_to(state)], earlier(n), later(n))
                self.assertEqual(there[0], state - n)
                self.assertEqual(back, [state, there[2], there[1], state])

    def test_a_refused_one_changes_nothing(self):
        before = TREE + [go_to(2)]
        for move, code in ((earlier(0), -1), (earlier(3), -7), (later(0), -1), (later(4), -7)):
            self.assertEqual(run_after(before, move, UNDO, REDO, earlier(1), later(1)),
                             [[code], [1, 1], [2, 2], [1, 1, 0, 1], [2, 0, 1, 2]])

    def test_groups_count_as_one_state(self):
        self.assertEqual(run(start([1]), OPEN_GROUP, insert(1), insert(1), CLOSE_GROUP, insert(5), earlier(1),
                             earlier(1), later(2), OPEN_GROUP, CLOSE_GROUP, later(1), earlier(2)),
                         [[1], [1], [1, 2], [1, 3], [1], [2, 8], [1, 1, 0, 3],
                          [0, 1, 0, 1], [2, 0, 2, 8], [3], [2], [-7], [0, 2, 0, 1]])


if __name__ == "__main__":
    unittest.main()
