import unittest

from tests.calls import (CLOSE_GROUP, GET_TEXT, MOST, OPEN_GROUP, REDO, UNDO, ago, change, earlier, forget, go_to,
                         insert, later, run, run_after, start, text_of, wait)


class GetText(unittest.TestCase):
    def test_empty(self):
        self.assertEqual(run(GET_TEXT), [[0]])
        self.assertEqual(run(start(), GET_TEXT), [[0], [0]])
        self.assertEqual(run(start([1, 2]), change(0, 2), GET_TEXT), [[2], [1, 0], [0]])

    def test_after_start(self):
        self.assertEqual(run(start([0, 255, 7, 7, 3]), GET_TEXT), [[5], [5, 0, 255, 7, 7, 3]])
        self.assertEqual(run(start([5] * 299 + [6]), GET_TEXT), [[300], [300] + [5] * 299 + [6]])

    def test_inserted_bytes(self):
        before = [start([10, 20, 30])]
        self.assertEqual(run_after(before, change(0, 0, [4, 5]), GET_TEXT), [[1, 5], [5, 4, 5, 10, 20, 30]])
        self.assertEqual(run_after(before, change(1, 0, [4, 5]), GET_TEXT), [[1, 5], [5, 10, 4, 5, 20, 30]])
        self.assertEqual(run_after(before, change(2, 0, [4, 5]), GET_TEXT), [[1, 5], [5, 10, 20, 4, 5, 30]])
        self.assertEqual(run_after(before, change(3, 0, [4, 5]), GET_TEXT), [[1, 5], [5, 10, 20, 30, 4, 5]])

    def test_removed_bytes(self):
        before = [start([10, 20, 30, 40])]
        self.assertEqual(run_after(before, change(0, 1), GET_TEXT), [[1, 3], [3, 20, 30, 40]])
        self.assertEqual(run_after(before, change(1, 2), GET_TEXT), [[1, 2], [2, 10, 40]])
        self.assertEqual(run_after(before, change(3, 1), GET_TEXT), [[1, 3], [3, 10, 20, 30]])
        self.assertEqual(run_after(before, change(2, 2), GET_TEXT), [[1, 2], [2, 10, 20]])

    def test_replaced_bytes(self):
        before = [start([10, 20, 30, 40])]
        self.assertEqual(run_after(before, change(1, 2, [0, 255, 0]), GET_TEXT), [[1, 5], [5, 10, 0, 255, 0, 40]])
        self.assertEqual(run_after(before, change(0, 4, [9]), GET_TEXT), [[1, 1], [1, 9]])
        self.assertEqual(run_after(before, change(3, 1, [8, 9]), GET_TEXT), [[1, 5], [5, 10, 20, 30, 8, 9]])

    def test_a_change_of_nothing(self):
        self.assertEqual(run(start([1, 2, 3]), change(2, 0), GET_TEXT), [[3], [1, 3], [3, 1, 2, 3]])

    def test_one_change_behind_another(self):
        self.assertEqual(run(change(0, 0, [1, 2, 3]), change(3, 0, [4, 5]), change(1, 3, [9]), GET_TEXT),
                         [[1, 3], [2, 5], [3, 3], [3, 1, 9, 5]])

    def test_is_that_of_the_state_gone_to(self):
        before = [start([1]), change(1, 0, [2]), wait(5), change(2, 0, [3]), UNDO, change(0, 0, [4])]
        self.assertEqual(run_after(before, GET_TEXT, UNDO, GET_TEXT, REDO, GET_TEXT),
                         [[3, 4, 1, 2], [1, 2], [2, 1, 2], [3, 3], [3, 4, 1, 2]])
        self.assertEqual(run_after(before, go_to(2), GET_TEXT, earlier(2), GET_TEXT, later(1), GET_TEXT),
                         [[1, 1, 3], [3, 1, 2, 3], [0, 2, 0, 1], [1, 1], [1, 0, 1, 2], [2, 1, 2]])
        self.assertEqual(run_after(before, ago(5), GET_TEXT, ago(0), GET_TEXT),
                         [[1, 1, 0, 2], [2, 1, 2], [3, 0, 1, 3], [3, 4, 1, 2]])

    def test_after_a_refused_change(self):
        before = [start([1, 2, 3])]
        for wrong, code in ((change(4, 0), -1), (change(0, 4, [9]), -1), (change(0, 3, [256]), -1),
                            (change(1, 2, [9] * 300), -6)):
            self.assertEqual(run_after(before, wrong, GET_TEXT, text_of(0)), [[code], [3, 1, 2, 3], [3, 1, 2, 3]])
            self.assertEqual(run_after(before, OPEN_GROUP, change(1, 0), wrong, GET_TEXT),
                             [[1], [1, 3], [code], [3, 1, 2, 3]])

    def test_after_a_refused_start(self):
        for wrong in (start([5, 256]), start([5] * 301)):
            self.assertEqual(run(start([1, 2]), wrong, GET_TEXT, text_of(0)), [[2], [-1], [2, 1, 2], [2, 1, 2]])

    def test_is_asked_twice(self):
        self.assertEqual(run(start([1, 2]), GET_TEXT, GET_TEXT, insert(1), GET_TEXT, UNDO, GET_TEXT),
                         [[2], [2, 1, 2], [2, 1, 2], [1, 3], [3, 7, 1, 2], [0, 2], [2, 1, 2]])


class TextOf(unittest.TestCase):
    # 0 has the child 1, 1 has 2 and 3, 3 has 4.
    tree = [start([1, 2]), change(1, 0, [3]), change(0, 3), UNDO, change(2, 1, [5, 6]), change(0, 1)]
    texts = [[2, 1, 2], [3, 1, 3, 2], [0], [4, 1, 3, 5, 6], [3, 3, 5, 6]]

    def test_every_state(self):
        for current in range(5):
            answered = run_after(self.tree + [go_to(current)], *[text_of(state) for state in range(5)], GET_TEXT)
            self.assertEqual(answered, self.texts + [self.texts[current]])

    def test_leaves_the_current_state(self):
        self.assertEqual(run_after(self.tree, text_of(2), UNDO, text_of(0), REDO),
                         [[0], [3, 4], [2, 1, 2], [4, 3]])

    def test_no_such_state(self):
        self.assertEqual(run(text_of(1)), [[-2]])
        for number in (5, 6, 80, MOST):
            self.assertEqual(run_after(self.tree, text_of(number), GET_TEXT), [[-2], [3, 3, 5, 6]])

    def test_empty(self):
        self.assertEqual(run(text_of(0)), [[0]])

    def test_300_bytes(self):
        self.assertEqual(run(change(0, 0, [5] * 299 + [6]), UNDO, text_of(1), text_of(0)),
                         [[1, 300], [0, 0], [300] + [5] * 299 + [6], [0]])

    def test_after_start(self):
        self.assertEqual(run_after(self.tree, start([9]), text_of(0), text_of(1), text_of(4)),
                         [[1], [1, 9], [-2], [-2]])

    def test_deleted_states(self):
        self.assertEqual(run_after(self.tree, forget(2), text_of(0), text_of(1), text_of(2), text_of(3), text_of(4)),
                         [[3, 2, 0, 1], [-2], [-2], [-2], [4, 1, 3, 5, 6], [3, 3, 5, 6]])


class TextsInsideAGroup(unittest.TestCase):
    before = [start([1, 2]), change(2, 0, [3]), OPEN_GROUP]

    def test_without_changes_yet(self):
        self.assertEqual(run_after(self.before, GET_TEXT, text_of(1), text_of(0)),
                         [[3, 1, 2, 3], [3, 1, 2, 3], [2, 1, 2]])

    def test_the_current_text_has_the_changes_and_the_state_has_not(self):
        self.assertEqual(run_after(self.before, change(0, 1, [8, 9]), GET_TEXT, text_of(1), change(4, 0, [4]), GET_TEXT,
                                   text_of(1), text_of(0), text_of(2)),
                         [[2, 4], [4, 8, 9, 2, 3], [3, 1, 2, 3], [2, 5], [5, 8, 9, 2, 3, 4],
                          [3, 1, 2, 3], [2, 1, 2], [-2]])

    def test_when_it_is_closed(self):
        self.assertEqual(run_after(self.before, change(0, 1, [8, 9]), change(4, 0, [4]), CLOSE_GROUP, GET_TEXT,
                                   text_of(2), text_of(1), UNDO, GET_TEXT, REDO, GET_TEXT),
                         [[2, 4], [2, 5], [2], [5, 8, 9, 2, 3, 4], [5, 8, 9, 2, 3, 4], [3, 1, 2, 3], [1, 3],
                          [3, 1, 2, 3], [2, 5], [5, 8, 9, 2, 3, 4]])

    def test_when_it_is_closed_without_changes(self):
        self.assertEqual(run_after(self.before, CLOSE_GROUP, GET_TEXT, text_of(1)), [[1], [3, 1, 2, 3], [3, 1, 2, 3]])

    def test_start_ends_it(self):
        self.assertEqual(run_after(self.before, change(0, 3), start([7]), GET_TEXT, text_of(0)),
                         [[2, 0], [1], [1, 7], [1, 7]])


if __name__ == "__main__":
    unittest.main()
