import unittest

from tests.calls import (CLOSE_GROUP, GET_TEXT, LEAVES, MOST, OPEN_GROUP, ORIGINS, REDO, UNDO, change, forget, go_to,
                         insert, path, revert, run, run_after, start, state_info, text_of, wait)

SIX = start([1, 2, 3, 4, 5, 6])


class StraightAfterTheChange(unittest.TestCase):
    def test_gives_back_what_was_removed_and_takes_what_was_inserted(self):
        for made in (change(0, 0, [8, 9]), change(3, 0, [8]), change(6, 0, [8, 9]), change(0, 2), change(2, 3),
                     change(5, 1), change(0, 6), change(0, 2, [7, 7, 7]), change(2, 2, [9]), change(4, 2, [8, 8]),
                     change(0, 6, [5, 4]), change(0, 0), change(3, 0), change(6, 0)):
            self.assertEqual(run(SIX, made, revert(1), GET_TEXT)[2:], [[2, 6], [6, 1, 2, 3, 4, 5, 6]])

    def test_of_an_empty_text(self):
        self.assertEqual(run(change(0, 0), revert(1), GET_TEXT), [[1, 0], [2, 0], [0]])
        self.assertEqual(run(change(0, 0, [1, 2]), revert(1), GET_TEXT), [[1, 2], [2, 0], [0]])

    def test_of_300_bytes(self):
        self.assertEqual(run(start([3] * 300), change(0, 300, [9]), revert(1), GET_TEXT),
                         [[300], [1, 1], [2, 300], [300] + [3] * 300])
        self.assertEqual(run(start([3]), change(0, 1, [9] * 300), revert(1), GET_TEXT), [[1], [1, 300], [2, 1], [1, 3]])

    def test_of_a_group_with_one_change(self):
        self.assertEqual(run(SIX, OPEN_GROUP, change(1, 2, [9]), CLOSE_GROUP, revert(1), GET_TEXT),
                         [[6], [1], [1, 5], [1], [2, 6], [6, 1, 2, 3, 4, 5, 6]])


class OneLaterChange(unittest.TestCase):
    """One change takes 2 3 for 8 9; its region is from 1 to 3 in 1 8 9 4 5 6."""

    before = [SIX, change(1, 2, [8, 9])]

    def reverted(self, later):
        return run_after(self.before, later, revert(1), GET_TEXT)[1:]

    def test_behind_the_region(self):
        self.assertEqual(self.reverted(change(4, 0, [7])), [[3, 7], [7, 1, 2, 3, 4, 7, 5, 6]])
        self.assertEqual(self.reverted(change(4, 2)), [[3, 4], [4, 1, 2, 3, 4]])
        self.assertEqual(self.reverted(change(6, 0, [7])), [[3, 7], [7, 1, 2, 3, 4, 5, 6, 7]])

    def test_at_the_end_of_the_region(self):
        self.assertEqual(self.reverted(change(3, 0, [7])), [[3, 7], [7, 1, 2, 3, 7, 4, 5, 6]])
        self.assertEqual(self.reverted(change(3, 1)), [[3, 5], [5, 1, 2, 3, 5, 6]])
        self.assertEqual(self.reverted(change(3, 3, [7])), [[3, 4], [4, 1, 2, 3, 7]])
        self.assertEqual(self.reverted(change(3, 0)), [[3, 6], [6, 1, 2, 3, 4, 5, 6]])

    def test_ahead_of_the_region(self):
        self.assertEqual(self.reverted(change(0, 0, [7, 7, 7])), [[3, 9], [9, 7, 7, 7, 1, 2, 3, 4, 5, 6]])
        self.assertEqual(self.reverted(change(0, 0)), [[3, 6], [6, 1, 2, 3, 4, 5, 6]])

    def test_up_to_the_start_of_the_region(self):
        self.assertEqual(self.reverted(change(0, 1)), [[3, 5], [5, 2, 3, 4, 5, 6]])
        self.assertEqual(self.reverted(change(0, 1, [7])), [[3, 6], [6, 7, 2, 3, 4, 5, 6]])
        self.assertEqual(self.reverted(change(0, 1, [7, 7, 7])), [[3, 8], [8, 7, 7, 7, 2, 3, 4, 5, 6]])

    def test_at_the_start_of_the_region(self):
        self.assertEqual(self.reverted(change(1, 0, [7])), [[3, 7], [7, 1, 7, 2, 3, 4, 5, 6]])
        self.assertEqual(self.reverted(change(1, 0)), [[3, 6], [6, 1, 2, 3, 4, 5, 6]])

    def test_inside_the_region(self):
        for later in (change(1, 1), change(2, 1), change(1, 2), change(2, 0, [7]), change(2, 0), change(1, 1, [8])):
            self.assertEqual(self.reverted(later)[0], [-8])

    def test_over_an_end_of_the_region(self):
        for later in (change(0, 2), change(0, 2, [7, 7]), change(2, 2), change(2, 4, [7]), change(0, 3), change(1, 3),
                      change(0, 6), change(0, 6, [1, 8, 9, 4, 5, 6])):
            self.assertEqual(self.reverted(later)[0], [-8])


class EmptyRegion(unittest.TestCase):
    """One change removes 2 3; its region is empty and at 1 in 1 4 5 6."""

    before = [SIX, change(1, 2)]

    def reverted(self, later):
        return run_after(self.before, later, revert(1), GET_TEXT)[1:]

    def test_behind_it(self):
        self.assertEqual(self.reverted(change(2, 0, [7])), [[3, 7], [7, 1, 2, 3, 4, 7, 5, 6]])
        self.assertEqual(self.reverted(change(2, 2)), [[3, 4], [4, 1, 2, 3, 4]])

    def test_at_it(self):
        # The later change starts at the end of the region, which stays, though it ends at its start as well.
        self.assertEqual(self.reverted(change(1, 0, [7])), [[3, 7], [7, 1, 2, 3, 7, 4, 5, 6]])
        self.assertEqual(self.reverted(change(1, 0)), [[3, 6], [6, 1, 2, 3, 4, 5, 6]])
        self.assertEqual(self.reverted(change(1, 1)), [[3, 5], [5, 1, 2, 3, 5, 6]])
        self.assertEqual(self.reverted(change(1, 3, [7])), [[3, 4], [4, 1, 2, 3, 7]])

    def test_ahead_of_it(self):
        self.assertEqual(self.reverted(change(0, 0, [7])), [[3, 7], [7, 7, 1, 2, 3, 4, 5, 6]])
        self.assertEqual(self.reverted(change(0, 1)), [[3, 5], [5, 2, 3, 4, 5, 6]])
        self.assertEqual(self.reverted(change(0, 1, [7, 7])), [[3, 7], [7, 7, 7, 2, 3, 4, 5, 6]])

    def test_over_it(self):
        for later in (change(0, 2), change(0, 4), change(0, 3, [7])):
            self.assertEqual(self.reverted(later)[0], [-8])

    def test_of_a_change_of_nothing(self):
        before = [SIX, change(2, 0)]
        self.assertEqual(run_after(before, change(2, 1), revert(1), GET_TEXT), [[2, 5], [3, 5], [5, 1, 2, 4, 5, 6]])
        self.assertEqual(run_after(before, change(1, 1), revert(1), GET_TEXT), [[2, 5], [3, 5], [5, 1, 3, 4, 5, 6]])
        self.assertEqual(run_after(before, change(1, 2), revert(1), GET_TEXT), [[2, 4], [-8], [4, 1, 4, 5, 6]])


class RegionOfAnInsertion(unittest.TestCase):
    def test_of_one_byte(self):
        before = [SIX, change(2, 0, [9])]
        self.assertEqual(run_after(before, change(2, 0, [7]), revert(1), GET_TEXT),
                         [[2, 8], [3, 7], [7, 1, 2, 7, 3, 4, 5, 6]])
        self.assertEqual(run_after(before, change(3, 0, [7]), revert(1), GET_TEXT),
                         [[2, 8], [3, 7], [7, 1, 2, 7, 3, 4, 5, 6]])
        self.assertEqual(run_after(before, change(2, 1), revert(1)), [[2, 6], [-8]])
        self.assertEqual(run_after(before, change(2, 1, [9]), revert(1)), [[2, 7], [-8]])

    def test_at_the_end_of_the_text(self):
        self.assertEqual(run(SIX, change(6, 0, [9]), change(7, 0, [8]), change(0, 3), revert(1), GET_TEXT),
                         [[6], [1, 7], [2, 8], [3, 5], [4, 4], [4, 4, 5, 6, 8]])


class SeveralLaterChanges(unittest.TestCase):
    # The texts: 1 2 3 4 50 51 6, 7 8 9 3 4 50 51 6, 7 8 9 3 4 50 51, 7 9 3 4 50 51.
    before = [SIX, change(4, 1, [50, 51]), change(0, 2, [7, 8, 9]), change(7, 1), change(1, 1)]

    def test_texts(self):
        self.assertEqual(run_after(self.before, text_of(1), text_of(2), text_of(3), text_of(4)),
                         [[7, 1, 2, 3, 4, 50, 51, 6], [8, 7, 8, 9, 3, 4, 50, 51, 6], [7, 7, 8, 9, 3, 4, 50, 51],
                          [6, 7, 9, 3, 4, 50, 51]])

    def test_each_of_them(self):
        self.assertEqual(run_after(self.before, revert(1), GET_TEXT), [[5, 5], [5, 7, 9, 3, 4, 5]])
        self.assertEqual(run_after(self.before, revert(2)), [[-8]])
        self.assertEqual(run_after(self.before, revert(3), GET_TEXT), [[5, 7], [7, 7, 9, 3, 4, 50, 51, 6]])
        self.assertEqual(run_after(self.before, revert(4), GET_TEXT), [[5, 7], [7, 7, 8, 9, 3, 4, 50, 51]])

    def test_from_a_state_in_between(self):
        self.assertEqual(run_after(self.before, go_to(3), revert(2), GET_TEXT, path(0, 5)),
                         [[1, 0, 7], [5, 6], [6, 1, 2, 3, 4, 50, 51], [5, 0, 1, 2, 3, 5]])
        self.assertEqual(run_after(self.before, go_to(2), revert(1), GET_TEXT),
                         [[2, 0, 8], [5, 7], [7, 7, 8, 9, 3, 4, 5, 6]])

    def test_one_behind_another(self):
        self.assertEqual(run_after(self.before, revert(1), revert(3), revert(4), revert(2), GET_TEXT),
                         [[5, 5], [6, 6], [7, 7], [-8], [7, 7, 8, 9, 3, 4, 5, 6]])

    def test_a_later_change_that_overlapped_counts_even_when_it_was_reverted(self):
        self.assertEqual(run_after(self.before, revert(4), revert(2)), [[5, 7], [-8]])

    def test_the_region_moves_with_each_change(self):
        # Behind the first later change the region is from 4 to 5; the second would lie behind it, were it not moved.
        self.assertEqual(run(SIX, change(2, 1, [9]), change(0, 0, [7, 7]), change(3, 1), revert(1), GET_TEXT),
                         [[6], [1, 6], [2, 8], [3, 7], [4, 7], [7, 7, 7, 1, 3, 4, 5, 6]])
        self.assertEqual(run(SIX, change(4, 1, [9]), change(0, 2), change(3, 1), revert(1), GET_TEXT),
                         [[6], [1, 6], [2, 4], [3, 3], [4, 3], [3, 3, 4, 5]])
        self.assertEqual(run(SIX, change(4, 1, [9]), change(0, 2), change(2, 1), revert(1)),
                         [[6], [1, 6], [2, 4], [3, 3], [-8]])

    def test_changes_on_other_branches_do_not_matter(self):
        self.assertEqual(run(SIX, change(2, 1, [9]), change(2, 1), UNDO, change(0, 1), revert(1), GET_TEXT),
                         [[6], [1, 6], [2, 5], [1, 6], [3, 5], [4, 5], [5, 2, 3, 4, 5, 6]])

    def test_changes_ahead_of_it_do_not_matter(self):
        self.assertEqual(run(SIX, change(0, 2, [9]), change(0, 1, [8]), revert(2), GET_TEXT),
                         [[6], [1, 5], [2, 5], [3, 5], [5, 9, 3, 4, 5, 6]])

    def test_long_history(self):
        before = [start([9]), change(1, 0, [8])] + [insert(1), change(0, 0)] * 30
        self.assertEqual(run_after(before, revert(1), GET_TEXT), [[62, 31], [31] + [7] * 30 + [9]])


class LaterGroups(unittest.TestCase):
    def test_each_of_its_changes_counts(self):
        self.assertEqual(run(SIX, change(3, 1, [40]), OPEN_GROUP, change(0, 0, [9, 9]), change(0, 1), CLOSE_GROUP,
                             revert(1), GET_TEXT),
                         [[6], [1, 6], [2], [2, 8], [2, 7], [2], [3, 7], [7, 9, 1, 2, 3, 4, 5, 6]])

    def test_each_refers_to_the_text_after_those_ahead_of_it(self):
        self.assertEqual(run(SIX, change(3, 1, [40]), OPEN_GROUP, change(0, 0, [9, 9]), change(4, 1), CLOSE_GROUP,
                             revert(1), GET_TEXT),
                         [[6], [1, 6], [2], [2, 8], [2, 7], [2], [3, 7], [7, 9, 9, 1, 2, 4, 5, 6]])

    def test_one_of_its_changes_overlaps(self):
        for changes in ([change(3, 1), insert(1)], [insert(1), change(4, 1)], [change(5, 0), change(0, 6), insert(1)]):
            answered = run(SIX, change(3, 1, [40]), OPEN_GROUP, *changes, CLOSE_GROUP, revert(1))
            self.assertEqual(answered[-1], [-8])

    def test_the_group_ends_in_the_same_text(self):
        self.assertEqual(run(SIX, change(3, 1, [40]), OPEN_GROUP, change(3, 1), change(3, 0, [40]), CLOSE_GROUP,
                             revert(1))[-1], [-8])


class RevertOfARevert(unittest.TestCase):
    def test_gives_the_text_before_it(self):
        self.assertEqual(run(start([1, 2, 3]), change(1, 1, [9, 8]), revert(1), revert(2), GET_TEXT, revert(3),
                             GET_TEXT),
                         [[3], [1, 4], [2, 3], [3, 4], [4, 1, 9, 8, 3], [4, 3], [3, 1, 2, 3]])

    def test_with_a_change_in_between(self):
        self.assertEqual(run(start([1, 2, 3]), change(1, 1, [9, 8]), change(0, 0, [7]), revert(1), change(0, 1),
                             revert(3), GET_TEXT),
                         [[3], [1, 4], [2, 5], [3, 4], [4, 3], [5, 4], [4, 1, 9, 8, 3]])

    def test_the_same_state_once_more(self):
        # What a revert removes is the region itself: it overlaps it, unless that is empty.
        self.assertEqual(run(start([1, 2, 3]), change(1, 1, [9]), revert(1), revert(1)), [[3], [1, 3], [2, 3], [-8]])
        self.assertEqual(run(start([1, 2, 3]), change(1, 0, [9]), revert(1), revert(1)), [[3], [1, 4], [2, 3], [-8]])
        self.assertEqual(run(start([1, 2, 3]), change(1, 1), revert(1), revert(1), GET_TEXT),
                         [[3], [1, 2], [2, 3], [3, 4], [4, 1, 2, 2, 3]])

    def test_the_region_of_a_revert_is_what_it_gave_back(self):
        before = [SIX, change(1, 3, [9]), change(0, 0, [7]), revert(1)]
        self.assertEqual(run_after(before, GET_TEXT, change(2, 0, [8]), revert(3), GET_TEXT),
                         [[7, 7, 1, 2, 3, 4, 5, 6], [4, 8], [5, 6], [6, 7, 1, 8, 9, 5, 6]])
        self.assertEqual(run_after(before, change(5, 0, [8]), revert(3), GET_TEXT),
                         [[4, 8], [5, 6], [6, 7, 1, 9, 8, 5, 6]])
        self.assertEqual(run_after(before, change(3, 0, [8]), revert(3)), [[4, 8], [-8]])
        self.assertEqual(run_after(before, change(4, 1), revert(3)), [[4, 6], [-8]])


class StateOfARevert(unittest.TestCase):
    def test_is_a_child_of_the_current_state(self):
        self.assertEqual(run(SIX, wait(3), insert(1), wait(4), insert(1), UNDO, revert(1), state_info(3), state_info(1),
                             UNDO, REDO, UNDO, UNDO),
                         [[6], [3], [1, 7], [7], [2, 8], [1, 7], [3, 6], [2, 7, 2, 0, 1, 0], [1, 3, 1, 0, 1, 2, 2, 3],
                          [1, 7], [3, 6], [1, 7], [0, 6]])

    def test_is_the_preferred_child(self):
        self.assertEqual(run(insert(1), insert(1), UNDO, revert(1), go_to(2), go_to(0), go_to(1), revert(1), UNDO,
                             REDO),
                         [[1, 1], [2, 2], [1, 1], [3, 0], [1, 1, 2], [2, 0, 0], [0, 1, 1], [4, 0], [1, 1], [4, 0]])

    def test_leaves_the_reverted_one(self):
        self.assertEqual(run(SIX, change(0, 3), change(0, 1), revert(1), text_of(0), text_of(1), text_of(2),
                             text_of(3)),
                         [[6], [1, 3], [2, 2], [3, 5], [6, 1, 2, 3, 4, 5, 6], [3, 4, 5, 6], [2, 5, 6],
                          [5, 1, 2, 3, 5, 6]])

    def test_origins(self):
        self.assertEqual(run(SIX, change(1, 2, [9]), change(0, 0, [7]), revert(1), ORIGINS),
                         [[6], [1, 5], [2, 6], [3, 7], [7, 2, 0, 3, 3, 0, 0, 0]])

    def test_numbers_go_on(self):
        self.assertEqual(run(insert(1), revert(1), insert(1), LEAVES, OPEN_GROUP),
                         [[1, 1], [2, 0], [3, 1], [1, 3], [4]])


class RefusedRevert(unittest.TestCase):
    # 0 has the child 1, 1 has 2 and 3; 2 and 4 are groups with two changes; 4 below 3 is current, 5 lies below it.
    tree = [SIX, change(2, 1, [9]), OPEN_GROUP, insert(1), insert(1), CLOSE_GROUP, UNDO, change(2, 1), OPEN_GROUP,
            insert(1), insert(1), CLOSE_GROUP, insert(1), UNDO]

    def test_tree(self):
        self.assertEqual(run_after(self.tree, path(0, 5), path(2, 3), GET_TEXT),
                         [[5, 0, 1, 3, 4, 5], [3, 2, 1, 3], [7, 7, 7, 1, 2, 4, 5, 6]])

    def test_no_such_state(self):
        self.assertEqual(run(revert(1), revert(MOST)), [[-2], [-2]])
        for number in (6, 7, 80, MOST):
            self.assertEqual(run_after(self.tree, revert(number)), [[-2]])

    def test_the_root(self):
        self.assertEqual(run(revert(0)), [[-6]])
        self.assertEqual(run_after(self.tree, revert(0), go_to(0), revert(0)), [[-6], [3, 0, 6], [-6]])

    def test_not_on_the_path(self):
        self.assertEqual(run_after(self.tree, revert(5)), [[-6]])
        self.assertEqual(run_after(self.tree, go_to(1), revert(3), UNDO, revert(1)), [[2, 0, 6], [-6], [0, 6], [-6]])
        self.assertEqual(run(insert(1), UNDO, insert(2), revert(1), GET_TEXT),
                         [[1, 1], [0, 0], [2, 2], [-6], [2, 7, 7]])

    def test_more_than_one_change(self):
        self.assertEqual(run_after(self.tree, revert(4)), [[-4]])
        self.assertEqual(run(OPEN_GROUP, change(0, 0), change(0, 0), CLOSE_GROUP, revert(1)),
                         [[1], [1, 0], [1, 0], [1], [-4]])

    def test_more_than_one_change_beside_the_path(self):
        self.assertEqual(run_after(self.tree, revert(2)), [[-6]])
        self.assertEqual(run_after(self.tree, go_to(3), revert(4)), [[1, 0, 5], [-6]])

    def test_more_than_one_change_and_an_overlap(self):
        self.assertEqual(run_after(self.tree, go_to(2), change(0, 2), revert(2)), [[2, 1, 8], [6, 6], [-4]])

    def test_more_than_one_change_and_a_long_text(self):
        self.assertEqual(run(start([1] * 300), OPEN_GROUP, change(0, 9), change(0, 9), CLOSE_GROUP, insert(18),
                             revert(1)),
                         [[300], [1], [1, 291], [1, 282], [1], [2, 300], [-4]])

    def test_overlap(self):
        self.assertEqual(run_after(self.tree, revert(1)), [[-8]])

    def test_overlap_and_a_long_text(self):
        self.assertEqual(run(start([1] * 300), change(0, 10, [2]), change(0, 1, [3] * 10), revert(1)),
                         [[300], [1, 291], [2, 300], [-8]])

    def test_beside_the_path_and_an_overlap(self):
        self.assertEqual(run(SIX, change(0, 1, [9]), change(0, 1), go_to(0), revert(1)),
                         [[6], [1, 6], [2, 5], [2, 0, 6], [-6]])

    def test_open_group_comes_first(self):
        for number in (0, 1, 2, 3, 4, 5, 6, MOST):
            self.assertEqual(run_after(self.tree + [OPEN_GROUP], revert(number), CLOSE_GROUP), [[-9], [4]])
        self.assertEqual(run(start([1] * 300), change(0, 1), insert(1), OPEN_GROUP, revert(1)),
                         [[300], [1, 299], [2, 300], [3], [-9]])

    def test_changes_nothing(self):
        before = self.tree + [change(0, 1), change(0, 0, [5] * 294), UNDO]
        for number, code in ((0, -6), (1, -8), (2, -6), (4, -4), (5, -6), (7, -6), (8, -2)):
            self.assertEqual(run_after(before, revert(number), GET_TEXT, REDO, UNDO, UNDO, LEAVES, OPEN_GROUP),
                             [[code], [6, 7, 1, 2, 4, 5, 6], [7, 300], [6, 6], [4, 7], [3, 2, 5, 7], [8]])


class LongTexts(unittest.TestCase):
    # The first ten of 300 bytes are removed.
    before = [start([4] * 10 + [1] * 290), change(0, 10)]

    def test_300_and_301(self):
        self.assertEqual(run_after(self.before, change(290, 0, [2]), revert(1)), [[2, 291], [-5]])
        self.assertEqual(run_after(self.before, change(290, 0, [2] * 10), revert(1)), [[2, 300], [-5]])
        self.assertEqual(run_after(self.before, change(289, 1, [2]), revert(1), GET_TEXT),
                         [[2, 290], [3, 300], [300] + [4] * 10 + [1] * 289 + [2]])
        self.assertEqual(run_after(self.before, change(0, 1, [2, 2]), revert(1)), [[2, 291], [-5]])

    def test_what_is_removed_makes_room(self):
        before = [start([4] * 10 + [1] * 290), change(0, 10, [3] * 8)]
        self.assertEqual(run_after(before, revert(1), GET_TEXT), [[2, 300], [300] + [4] * 10 + [1] * 290])
        self.assertEqual(run_after(before, change(8, 2, [2] * 2), revert(1)), [[2, 298], [3, 300]])
        self.assertEqual(run_after(before, change(8, 2, [2] * 3), revert(1)), [[2, 299], [-5]])
        self.assertEqual(run_after(before, change(8, 2, [2] * 4), revert(1)), [[2, 300], [-5]])

    def test_a_shorter_text_is_never_too_long(self):
        self.assertEqual(run(insert(100), change(100, 0, [1] * 200), revert(1), revert(2), GET_TEXT),
                         [[1, 100], [2, 300], [3, 200], [4, 0], [0]])

    def test_the_text_may_have_been_longer_in_between(self):
        self.assertEqual(run_after(self.before, insert(10), change(0, 10), revert(1)), [[2, 300], [3, 290], [4, 300]])

    def test_changes_nothing(self):
        before = self.before + [change(290, 0, [2]), insert(3), UNDO]
        self.assertEqual(run_after(before, revert(1), GET_TEXT, REDO, UNDO, LEAVES, change(0, 290), revert(1)),
                         [[-5], [291] + [1] * 290 + [2], [3, 294], [2, 291], [1, 3], [4, 1], [5, 11]])


class RevertAfterForget(unittest.TestCase):
    # Four states in a row: the texts 1 2 3, 1 9 3, 1 9 3 8 and 7 1 9 3 8.
    tree = [start([1, 2, 3]), change(1, 1, [9]), change(3, 0, [8]), change(0, 0, [7])]

    def test_the_new_root(self):
        self.assertEqual(run_after(self.tree, forget(3), revert(1), revert(0), GET_TEXT),
                         [[1, 0], [-6], [-2], [5, 7, 1, 9, 3, 8]])
        self.assertEqual(run_after(self.tree, forget(1), revert(3), revert(2)), [[3, 0, 1, 2], [-6], [-2]])

    def test_the_states_below_it(self):
        self.assertEqual(run_after(self.tree, forget(3), revert(2), GET_TEXT), [[1, 0], [4, 4], [4, 7, 1, 9, 3]])
        self.assertEqual(run_after(self.tree, forget(2), revert(3), GET_TEXT), [[2, 0, 1], [4, 4], [4, 1, 9, 3, 8]])

    def test_what_was_removed_from_the_text_of_the_new_root(self):
        before = self.tree + [change(1, 3, [5]), change(0, 1), forget(3)]
        self.assertEqual(run_after(before, revert(4), GET_TEXT), [[6, 4], [4, 1, 9, 3, 8]])

    def test_a_deleted_state(self):
        before = self.tree + [go_to(1), forget(2)]
        self.assertEqual(run_after(before, revert(3), revert(2), revert(1), revert(0), GET_TEXT),
                         [[-2], [-2], [4, 3], [-6], [3, 1, 2, 3]])

    def test_a_new_root_from_a_group(self):
        before = [SIX, OPEN_GROUP, insert(1), insert(1), CLOSE_GROUP, insert(1)]
        self.assertEqual(run_after(before, revert(1), forget(2), revert(1)), [[-4], [1, 0], [-6]])


if __name__ == "__main__":
    unittest.main()
