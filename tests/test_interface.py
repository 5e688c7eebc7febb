import unittest

from undobranches.editor import answers


class Unchangeable(list):
    """A list that tells when somebody changes it, were it for a while only."""

    def refuse(self, *args, **kwargs):
        raise AssertionError("the list that was handed in is changed")

    append = extend = insert = pop = remove = clear = sort = reverse = refuse
    __setitem__ = __delitem__ = __iadd__ = __imul__ = refuse


# Three sessions of 80 calls with all twenty of them: each call, and its answer with the count ahead of it.
FIRST = [
    ([0, 3, 10, 20, 30], [1, 3]),
    ([1, 5], [1, 5]),
    ([2, 1, 1, 2, 40, 50], [2, 1, 4]),
    ([11], [5, 4, 10, 40, 50, 30]),
    ([12, 1], [6, 1, 5, 1, 0, 1, 0]),
    ([5], [2, 0, 3]),
    ([2, 3, 0, 1, 255], [2, 2, 4]),
    ([13], [3, 2, 1, 2]),
    ([14, 1, 2], [4, 3, 1, 0, 2]),
    ([7, 1], [3, 1, 1, 4]),
    ([6], [1, -7]),
    ([3], [1, 3]),
    ([2, 0, 4, 0], [2, 3, 0]),
    ([11], [1, 0]),
    ([19, 1], [5, 4, 10, 40, 50, 30]),
    ([2, 0, 0, 1, 9], [2, 3, 1]),
    ([15], [1, -9]),
    ([18, 1], [1, -9]),
    ([17, 1, 1], [1, 0]),
    ([1, 2], [1, 7]),
    ([4], [1, 3]),
    ([15], [2, 1, 3]),
    ([12, 3], [6, 2, 7, 2, 0, 2, 0]),
    ([16, 3], [1, -4]),
    ([16, 1], [1, -8]),
    ([16, 2], [1, -6]),
    ([16, 9], [1, -2]),
    ([8, 2], [4, 1, 1, 0, 4]),
    ([2, 4, 0, 2, 1, 2], [2, 4, 6]),
    ([16, 1], [2, 5, 5]),
    ([11], [6, 5, 10, 20, 30, 1, 2]),
    ([15], [6, 5, 0, 5, 0, 4, 4]),
    ([10, 3], [4, 0, 3, 0, 3]),
    ([10, 2], [4, 2, 0, 1, 4]),
    ([10, 8], [1, -7]),
    ([9, 1], [4, 3, 1, 2, 1]),
    ([6], [1, -7]),
    ([9, 2], [4, 5, 1, 2, 5]),
    ([9, 0], [1, -1]),
    ([8, 7], [1, -7]),
    ([12, 0], [8, 0, 0, 0, 0, 0, 2, 1, 2]),
    ([12, 1], [8, 1, 5, 1, 1, 1, 2, 3, 4]),
    ([13], [4, 3, 2, 3, 5]),
    ([17, 2, 1], [1, 0]),
    ([18, 0], [1, -1]),
    ([18, 5], [2, 1, 3]),
    ([13], [3, 2, 2, 5]),
    ([14, 5, 2], [6, 5, 5, 4, 1, 0, 2]),
    ([17, 2, 0], [1, 0]),
    ([18, 4], [2, 1, 2]),
    ([12, 0], [7, 0, 0, 0, 0, 0, 1, 1]),
    ([12, 1], [7, 1, 5, 1, 1, 1, 1, 4]),
    ([8, 1], [4, 4, 1, 0, 6]),
    ([6], [2, 5, 5]),
    ([5], [2, 4, 6]),
    ([2, 6, 0, 0], [2, 6, 6]),
    ([2, 0, 1, 1, 256], [1, -1]),
    ([2, 0, 0, 300] + [7] * 300, [1, -6]),
    ([3], [1, 7]),
    ([3], [1, -9]),
    ([4], [1, 6]),
    ([4], [1, -9]),
    ([7, 2], [1, -2]),
    ([7, 0], [3, 3, 0, 3]),
    ([17, 0, 1], [1, 0]),
    ([17, 1, 0], [1, 0]),
    ([18, 1], [5, 4, 5, 6, 4, 1]),
    ([12, 1], [1, -2]),
    ([12, 6], [1, -2]),
    ([5], [1, -7]),
    ([11], [4, 3, 10, 20, 30]),
    ([15], [4, 3, 0, 0, 0]),
    ([16, 7], [1, -2]),
    ([14, 1, 6], [1, -2]),
    ([14, 6, 3], [1, -2]),
    ([19, 1], [1, -2]),
    ([19, 6], [1, -2]),
    ([10, 0], [4, 0, 0, 0, 3]),
    ([1, 1000000], [1, -1]),
    ([2, 2, 1, 0], [2, 7, 2]),
]

SECOND = [
    ([18, 1], [1, 0]),
    ([16, 0], [1, -6]),
    ([10, 0], [4, 0, 0, 0, 0]),
    ([10, 1], [1, -7]),
    ([5], [1, -7]),
    ([6], [1, -7]),
    ([15], [1, 0]),
    ([11], [1, 0]),
    ([13], [2, 1, 0]),
    ([3], [1, 1]),
    ([12, 0], [6, 0, 0, 0, 0, 0, 0]),
    ([2, 0, 0, 4, 1, 2, 3, 4], [2, 1, 4]),
    ([17, 0, 1], [1, 0]),
    ([17, 1, 1], [1, -2]),
    ([4], [1, 1]),
    ([17, 1, 1], [1, 0]),
    ([16, 1], [2, 2, 0]),
    ([5], [2, 1, 4]),
    ([2, 0, 1, 0], [2, 3, 3]),
    ([2, 3, 0, 3, 5, 6, 7], [2, 4, 6]),
    ([2, 0, 0, 0], [2, 5, 6]),
    ([16, 3], [2, 6, 7]),
    ([11], [8, 7, 1, 2, 3, 4, 5, 6, 7]),
    ([15], [8, 7, 6, 1, 1, 1, 4, 4, 4]),
    ([16, 4], [2, 7, 4]),
    ([16, 6], [2, 8, 3]),
    ([11], [4, 3, 2, 3, 4]),
    ([16, 3], [2, 9, 4]),
    ([5], [2, 8, 3]),
    ([5], [2, 7, 4]),
    ([5], [2, 6, 7]),
    ([6], [2, 7, 4]),
    ([6], [2, 8, 3]),
    ([6], [2, 9, 4]),
    ([6], [1, -7]),
    ([6], [1, -7]),
    ([13], [3, 2, 2, 9]),
    ([18, 4], [2, 1, 2]),
    ([18, 3], [1, 0]),
    ([17, 0, 0], [1, 0]),
    ([17, 1, 0], [1, 0]),
    ([18, 3], [7, 6, 0, 1, 3, 4, 5, 6]),
    ([13], [2, 1, 9]),
    ([19, 0], [1, -2]),
    ([7, 3], [1, -2]),
    ([19, 7], [5, 4, 1, 2, 3, 4]),
    ([5], [2, 8, 3]),
    ([5], [2, 7, 4]),
    ([5], [1, -7]),
    ([15], [5, 4, 7, 7, 7, 7]),
    ([12, 4], [1, -2]),
    ([12, 5], [1, -2]),
    ([12, 7], [7, 0, 0, 0, 0, 0, 1, 8]),
    ([14, 4, 7], [1, -2]),
    ([9, 1], [4, 8, 0, 1, 3]),
    ([9, 1], [4, 9, 0, 1, 4]),
    ([8, 2], [4, 7, 2, 0, 4]),
    ([9, 2], [4, 9, 0, 2, 4]),
    ([3], [1, 10]),
    ([1, 10], [1, 10]),
    ([2, 6, 0, 2, 0, 0], [1, -1]),
    ([2, 0, 1, 0], [2, 10, 3]),
    ([4], [1, 10]),
    ([12, 8], [7, 8, 0, 1, 0, 1, 1, 9]),
    ([15], [4, 3, 7, 7, 7]),
    ([16, 8], [2, 11, 4]),
    ([10, 10], [4, 9, 2, 0, 4]),
    ([10, 9], [4, 9, 0, 0, 4]),
    ([11], [5, 4, 1, 2, 3, 4]),
    ([18, 2], [4, 3, 11, 10, 7]),
    ([18, 1], [2, 1, 8]),
    ([15], [5, 4, 9, 9, 9, 9]),
    ([16, 8], [1, -2]),
    ([2, 7, 0, 0], [1, -1]),
    ([16, 9], [1, -6]),
    ([0, 1, 300], [1, -1]),
    ([0, 2, 8, 9], [1, 2]),
    ([11], [3, 2, 8, 9]),
    ([19, 1], [1, -2]),
    ([1, 0], [1, 0]),
]

THIRD = [
    ([0, 6, 1, 2, 3, 4, 5, 6], [1, 6]),
    ([1, 100], [1, 100]),
    ([2, 3, 1, 2, 40, 41], [2, 1, 7]),
    ([3], [1, 2]),
    ([2, 0, 0, 2, 9, 9], [2, 2, 9]),
    ([2, 0, 1, 0], [2, 2, 8]),
    ([10, 0], [1, -9]),
    ([4], [1, 2]),
    ([12, 2], [6, 2, 100, 2, 0, 2, 0]),
    ([16, 2], [1, -4]),
    ([16, 1], [2, 3, 7]),
    ([11], [8, 7, 9, 1, 2, 3, 4, 5, 6]),
    ([15], [8, 7, 2, 0, 0, 0, 3, 0, 0]),
    ([1, 50], [1, 150]),
    ([2, 7, 0, 1, 70], [2, 4, 8]),
    ([8, 2], [4, 2, 2, 0, 8]),
    ([2, 8, 0, 1, 80], [2, 5, 9]),
    ([14, 4, 5], [5, 4, 4, 3, 2, 5]),
    ([7, 4], [3, 1, 2, 8]),
    ([10, 50], [4, 3, 1, 0, 7]),
    ([10, 0], [4, 5, 1, 1, 9]),
    ([9, 1], [1, -7]),
    ([8, 5], [4, 0, 3, 0, 6]),
    ([6], [2, 1, 7]),
    ([6], [2, 2, 8]),
    ([6], [2, 5, 9]),
    ([13], [3, 2, 4, 5]),
    ([7, 2], [3, 1, 0, 8]),
    ([2, 0, 0, 1, 11], [2, 6, 9]),
    ([5], [2, 2, 8]),
    ([2, 0, 0, 1, 12], [2, 7, 9]),
    ([5], [2, 2, 8]),
    ([2, 0, 0, 1, 13], [2, 8, 9]),
    ([7, 6], [3, 1, 1, 9]),
    ([5], [2, 2, 8]),
    ([12, 2], [11, 2, 100, 2, 0, 2, 5, 3, 5, 6, 7, 8]),
    ([18, 5], [5, 4, 4, 3, 5, 6]),
    ([6], [2, 8, 9]),
    ([15], [10, 9, 8, 2, 0, 0, 0, 1, 1, 0, 0]),
    ([5], [2, 2, 8]),
    ([9, 1], [4, 7, 0, 1, 9]),
    ([9, 1], [4, 8, 1, 1, 9]),
    ([8, 2], [4, 2, 1, 0, 8]),
    ([6], [2, 8, 9]),
    ([19, 1], [8, 7, 1, 2, 3, 40, 41, 5, 6]),
    ([19, 3], [1, -2]),
    ([17, 1, 1], [1, 0]),
    ([18, 1], [3, 2, 7, 0]),
    ([14, 0, 8], [1, -2]),
    ([17, 2, 1], [1, 0]),
    ([18, 2], [1, 0]),
    ([5], [2, 2, 8]),
    ([5], [2, 1, 7]),
    ([5], [1, -7]),
    ([12, 1], [7, 0, 100, 0, 1, 0, 1, 2]),
    ([12, 2], [7, 2, 100, 1, 1, 2, 1, 8]),
    ([15], [8, 7, 1, 1, 1, 1, 1, 1, 1]),
    ([3], [1, 9]),
    ([11], [8, 7, 1, 2, 3, 40, 41, 5, 6]),
    ([18, 0], [1, -9]),
    ([17, 1, 0], [1, 0]),
    ([4], [1, 1]),
    ([7, 2], [3, 0, 1, 8]),
    ([18, 1], [3, 2, 8, 1]),
    ([17, 2, 0], [1, 0]),
    ([2, 8, 0, 3, 0, 0, 0], [2, 9, 11]),
    ([16, 9], [2, 10, 8]),
    ([2, 0, 11, 0], [1, -1]),
    ([10, 51], [1, -7]),
    ([18, 1], [3, 2, 2, 9]),
    ([2, 0, 0, 300] + [5] * 300, [1, -6]),
    ([16, 12], [1, -2]),
    ([11], [9, 8, 9, 1, 2, 3, 40, 41, 5, 6]),
    ([0, 1, 6], [1, 1]),
    ([2, 0, 1, 300] + [5] * 300, [2, 1, 300]),
    ([2, 0, 10, 0], [2, 2, 290]),
    ([2, 0, 0, 10, 8, 8, 8, 8, 8, 8, 8, 8, 8, 8], [2, 3, 300]),
    ([16, 2], [1, -5]),
    ([16, 1], [1, -8]),
    ([13], [2, 1, 3]),
]


def side_by_side(session):
    """The list of calls that is handed in for a session, and the list that is answered."""
    calls = [number for call, _ in session for number in call]
    return calls, [number for _, answer in session for number in answer]


LONG, LONG_ANSWERS = side_by_side(FIRST)
OTHER, OTHER_ANSWERS = side_by_side(SECOND)
BRANCHED, BRANCHED_ANSWERS = side_by_side(THIRD)


class WholeAnswers(unittest.TestCase):
    def test_each_call_alone(self):
        for calls, answered in (
            ([0, 0], [1, 0]),
            ([0, 2, 5, 6], [1, 2]),
            ([0, 1, 256], [1, -1]),
            ([1, 7], [1, 7]),
            ([1, 1000001], [1, -1]),
            ([2, 0, 0, 0], [2, 1, 0]),
            ([2, 0, 0, 3, 1, 2, 3], [2, 1, 3]),
            ([2, 0, 1, 3, 1, 2, 3], [1, -1]),
            ([2, 0, 0, 301] + [1] * 301, [1, -6]),
            ([3], [1, 1]),
            ([4], [1, -9]),
            ([5], [1, -7]),
            ([6], [1, -7]),
            ([7, 0], [3, 0, 0, 0]),
            ([7, 1], [1, -2]),
            ([7, 4294967295], [1, -2]),
            ([8, 0], [1, -1]),
            ([8, 1], [1, -7]),
            ([9, 0], [1, -1]),
            ([9, 1], [1, -7]),
            ([10, 0], [4, 0, 0, 0, 0]),
            ([10, 1], [1, -7]),
            ([11], [1, 0]),
            ([12, 0], [6, 0, 0, 0, 0, 0, 0]),
            ([12, 1], [1, -2]),
            ([13], [2, 1, 0]),
            ([14, 0, 0], [2, 1, 0]),
            ([14, 0, 1], [1, -2]),
            ([14, 1, 0], [1, -2]),
            ([15], [1, 0]),
            ([16, 0], [1, -6]),
            ([16, 1], [1, -2]),
            ([17, 0, 0], [1, 0]),
            ([17, 0, 1], [1, 0]),
            ([17, 1, 1], [1, -2]),
            ([18, 0], [1, -1]),
            ([18, 1], [1, 0]),
            ([18, 4294967295], [1, 0]),
            ([19, 0], [1, 0]),
            ([19, 4294967295], [1, -2]),
        ):
            self.assertEqual(answers(calls), answered)

    def test_all_calls(self):
        self.assertEqual(answers(LONG), LONG_ANSWERS)
        self.assertEqual(answers(OTHER), OTHER_ANSWERS)
        self.assertEqual(answers(BRANCHED), BRANCHED_ANSWERS)

    def test_all_calls_are_there_80_at_a_time(self):
        for session in (FIRST, SECOND, THIRD):
            self.assertEqual(len(session), 80)
            self.assertEqual({call[0] for call, _ in session}, set(range(20)))

    def test_as_far_as_any_call(self):
        calls = []
        expected = []
        for call, answer in THIRD:
            calls += call
            expected += answer
            self.assertEqual(answers(calls), expected)

    def test_texts_and_origins(self):
        self.assertEqual(answers([0, 2, 8, 9, 2, 1, 0, 1, 7, 11, 15, 19, 0]),
                         [1, 2, 2, 1, 3, 4, 3, 8, 7, 9, 4, 3, 0, 1, 0, 3, 2, 8, 9])

    def test_states(self):
        self.assertEqual(answers([1, 4, 2, 0, 0, 0, 5, 2, 0, 0, 0, 17, 1, 1, 12, 0, 12, 1, 13, 14, 1, 2, 18, 1]),
                         [1, 4, 2, 1, 0, 2, 0, 0, 2, 2, 0, 1, 0, 8, 0, 0, 0, 0, 0, 2, 1, 2, 6, 1, 4, 1, 1, 1, 0,
                          3, 2, 1, 2, 4, 3, 1, 0, 2, 1, 0])

    def test_undo_and_redo(self):
        self.assertEqual(answers([0, 2, 104, 105, 2, 2, 0, 1, 33, 5, 6]), [1, 2, 2, 1, 3, 2, 0, 2, 2, 1, 3])

    def test_group(self):
        self.assertEqual(answers([3, 2, 0, 0, 2, 1, 1, 2, 2, 0, 1, 1, 4, 5, 5]),
                         [1, 1, 2, 1, 2, 2, 1, 3, 1, 1, 2, 0, 0, 1, -7])

    def test_numbers_of_a_list_are_no_calls(self):
        self.assertEqual(answers([0, 4, 5, 6, 3, 4, 2, 5, 0, 3, 3, 3, 3, 7, 0]), [1, 4, 1, -1, 3, 0, 0, 4])
        self.assertEqual(answers([2, 0, 0, 5, 0, 1, 2, 3, 4, 8, 1]), [2, 1, 5, 4, 0, 1, 0, 0])

    def test_a_refused_call_is_read_to_its_end(self):
        self.assertEqual(answers([0, 350] + [3] * 350 + [4]), [1, -1, 1, -9])
        self.assertEqual(answers([0, 3, 256, 3, 3, 4]), [1, -1, 1, -9])
        self.assertEqual(answers([2, 0, 0, 350] + [3] * 350 + [4]), [1, -6, 1, -9])
        self.assertEqual(answers([2, 0, 9, 3, 3, 3, 3, 4]), [1, -1, 1, -9])
        self.assertEqual(answers([3, 9, 5, 8, 5, 7, 5, 4]), [1, 1, 1, -9, 1, -9, 1, -9, 1, 0])
        self.assertEqual(answers([3, 10, 13, 16, 13, 18, 13, 4]), [1, 1, 1, -9, 1, -9, 1, -9, 1, 0])
        self.assertEqual(answers([12, 4, 14, 4, 0, 14, 0, 4, 16, 4, 17, 4, 1, 19, 4, 10, 3, 13]),
                         [1, -2, 1, -2, 1, -2, 1, -2, 1, -2, 1, -2, 1, -7, 2, 1, 0])


class HowManyCalls(unittest.TestCase):
    def test_80_changes(self):
        expected = []
        for state in range(1, 81):
            expected += [2, state, state]
        self.assertEqual(answers([2, 0, 0, 1, 0] * 80), expected)

    def test_80_calls_of_every_sort(self):
        calls = [2, 0, 0, 1, 0] * 20 + [5] * 21 + [6] * 21 + [3, 4] * 5 + [8, 20] + [9, 20] + [7, 10] + [1, 3] * 5
        expected = []
        for state in range(1, 21):
            expected += [2, state, state]
        for state in range(19, -1, -1):
            expected += [2, state, state]
        expected += [1, -7]
        for state in range(1, 21):
            expected += [2, state, state]
        expected += [1, -7]
        expected += [1, 21, 1, 20] * 5
        expected += [4, 0, 20, 0, 0, 4, 20, 0, 20, 20, 3, 10, 0, 10]
        expected += [1, 3, 1, 6, 1, 9, 1, 12, 1, 15]
        self.assertEqual(answers(calls), expected)

    def test_the_longest_list(self):
        calls = ([2, 0, 0, 350] + [255] * 350) * 80
        self.assertEqual(len(calls), 28320)
        self.assertEqual(answers(calls), [1, -6] * 80)

    def test_the_longest_answers(self):
        text = list(range(256)) + [9] * 44
        self.assertEqual(answers([0, 300, *text] + [11] * 40 + [19, 0] * 39),
                         [1, 300] + [301, 300, *text] * 79)
        self.assertEqual(answers([2, 0, 0, 300, *text] + [15] * 79), [2, 1, 300] + [301, 300, *[1] * 300] * 79)

    def test_all_in_one_group(self):
        expected = [1, 1]
        for count in range(1, 79):
            expected += [2, 1, count]
        self.assertEqual(answers([3] + [2, 0, 0, 1, 0] * 78 + [4]), expected + [1, 1])


class WhatIsHandedIn(unittest.TestCase):
    def test_is_the_same_afterwards(self):
        for calls in (LONG, OTHER, BRANCHED, [5], [0, 1, 256], [2, 0, 0, 3, 1, 2, 3],
                      ([2, 0, 0, 2, 4, 5] + [3, 4]) * 40):
            handed_in = list(calls)
            answers(handed_in)
            self.assertEqual(handed_in, calls)

    def test_is_not_changed_for_a_while_either(self):
        self.assertEqual(answers(Unchangeable(LONG)), LONG_ANSWERS)
        self.assertEqual(answers(Unchangeable(OTHER)), OTHER_ANSWERS)
        self.assertEqual(answers(Unchangeable(BRANCHED)), BRANCHED_ANSWERS)

    def test_can_be_changed_by_its_owner_afterwards(self):
        handed_in = list(LONG)
        answered = answers(handed_in)
        handed_in.clear()
        self.assertEqual(answered, LONG_ANSWERS)


class NothingIsKept(unittest.TestCase):
    def test_two_sessions_do_not_know_of_each_other(self):
        first = answers([0, 2, 1, 2, 1, 9, 2, 0, 0, 1, 1, 3, 2, 0, 0, 1, 1])
        self.assertEqual(first, [1, 2, 1, 9, 2, 1, 3, 1, 2, 2, 2, 4])
        self.assertEqual(answers([4, 1, 0, 7, 1, 5, 6, 2, 0, 0, 0]),
                         [1, -9, 1, 0, 1, -2, 1, -7, 1, -7, 2, 1, 0])

    def test_the_same_session_again(self):
        for _ in range(3):
            self.assertEqual(answers(list(LONG)), LONG_ANSWERS)
            self.assertEqual(answers(list(OTHER)), OTHER_ANSWERS)

    def test_answers_belong_to_the_caller(self):
        answered = answers(LONG)
        answered.clear()
        self.assertEqual(answers(LONG), LONG_ANSWERS)


class Kinds(unittest.TestCase):
    def test_a_list_of_whole_numbers(self):
        answered = answers(LONG)
        self.assertIs(type(answered), list)
        for number in answered:
            self.assertIs(type(number), int)

    def test_an_error_is_its_code_alone_and_nothing_else_is_below_0(self):
        answered = answers(LONG)
        place = 0
        while place < len(answered):
            answer = answered[place + 1:place + 1 + answered[place]]
            if min(answer) < 0:
                self.assertEqual(len(answer), 1)
            place += 1 + len(answer)
        self.assertEqual(place, len(answered))


if __name__ == "__main__":
    unittest.main()
