import unittest

from undobranches.editor import answers


class Unchangeable(list):
    """A list that tells when somebody changes it, were it for a while only."""

    def refuse(self, *args, **kwargs):
        raise AssertionError("the list that was handed in is changed")

    append = extend = insert = pop = remove = clear = sort = reverse = refuse
    __setitem__ = __delitem__ = __iadd__ = __imul__ = refuse


# Every call at least once with an answer and, where it has one, with a refusal.
LONG = [
    0, 3, 10, 20, 30,
    1, 5,
    2, 1, 1, 2, 40, 50,
    5,
    2, 3, 0, 1, 255,
    7, 1,
    6,
    3,
    2, 0, 4, 0,
    2, 0, 0, 1, 9,
    9, 1,
    4,
    8, 2,
    8, 1,
    9, 2,
    6,
    5,
    5,
    5,
    7, 4,
    1, 1000000,
    2, 9, 9, 0,
    2, 0, 0, 1, 256,
    4,
    3,
    3,
    4,
    9, 0,
    0, 1, 256,
    0, 0,
    6,
]

LONG_ANSWERS = [
    1, 3,
    1, 5,
    2, 1, 4,
    2, 0, 3,
    2, 2, 4,
    3, 1, 1, 4,
    1, -7,
    1, 3,
    2, 3, 0,
    2, 3, 1,
    1, -9,
    1, 3,
    4, 1, 1, 0, 4,
    4, 0, 1, 0, 3,
    4, 2, 0, 1, 4,
    1, -7,
    2, 0, 3,
    1, -7,
    1, -7,
    1, -2,
    1, -1,
    1, -1,
    1, -1,
    1, -9,
    1, 4,
    1, -9,
    1, 0,
    1, -1,
    1, -1,
    1, 0,
    1, -7,
]


class WholeAnswers(unittest.TestCase):
    def test_each_call_alone(self):
        for calls, answered in (
            ([0, 0], [1, 0]),
            ([0, 2, 5, 6], [1, 2]),
            ([0, 1, 256], [1, -1]),
            ([1, 7], [1, 7]),
            ([1, 1000001], [1, -1]),
            ([2, 0, 0, 0], [2, 1, 0]),
            ([2, 0, 0, 3, 1, 2, 3], [2, 1, 3]),
            ([2, 0, 1, 3, 1, 2, 3], [1, -1]),
            ([2, 0, 0, 301] + [1] * 301, [1, -6]),
            ([3], [1, 1]),
            ([4], [1, -9]),
            ([5], [1, -7]),
            ([6], [1, -7]),
            ([7, 0], [3, 0, 0, 0]),
            ([7, 1], [1, -2]),
            ([7, 4294967295], [1, -2]),
            ([8, 0], [1, -1]),
            ([8, 1], [1, -7]),
            ([9, 0], [1, -1]),
            ([9, 1], [1, -7]),
        ):
            self.assertEqual(answers(calls), answered)

    def test_all_calls(self):
        self.assertEqual(answers(LONG), LONG_ANSWERS)

    def test_undo_and_redo(self):
        self.assertEqual(answers([0, 2, 104, 105, 2, 2, 0, 1, 33, 5, 6]), [1, 2, 2, 1, 3, 2, 0, 2, 2, 1, 3])

    def test_group(self):
        self.assertEqual(answers([3, 2, 0, 0, 2, 1, 1, 2, 2, 0, 1, 1, 4, 5, 5]),
                         [1, 1, 2, 1, 2, 2, 1, 3, 1, 1, 2, 0, 0, 1, -7])

    def test_numbers_of_a_list_are_no_calls(self):
        self.assertEqual(answers([0, 4, 5, 6, 3, 4, 2, 5, 0, 3, 3, 3, 3, 7, 0]), [1, 4, 1, -1, 3, 0, 0, 4])
        self.assertEqual(answers([2, 0, 0, 5, 0, 1, 2, 3, 4, 8, 1]), [2, 1, 5, 4, 0, 1, 0, 0])

    def test_a_refused_call_is_read_to_its_end(self):
        self.assertEqual(answers([0, 350] + [3] * 350 + [4]), [1, -1, 1, -9])
        self.assertEqual(answers([0, 3, 256, 3, 3, 4]), [1, -1, 1, -9])
        self.assertEqual(answers([2, 0, 0, 350] + [3] * 350 + [4]), [1, -6, 1, -9])
        self.assertEqual(answers([2, 0, 9, 3, 3, 3, 3, 4]), [1, -1, 1, -9])
        self.assertEqual(answers([3, 9, 5, 8, 5, 7, 5, 4]), [1, 1, 1, -9, 1, -9, 1, -9, 1, 0])


class HowManyCalls(unittest.TestCase):
    def test_80_changes(self):
        expected = []
        for state in range(1, 81):
            expected += [2, state, state]
        self.assertEqual(answers([2, 0, 0, 1, 0] * 80), expected)

    def test_80_calls_of_every_sort(self):
        calls = [2, 0, 0, 1, 0] * 20 + [5] * 21 + [6] * 21 + [3, 4] * 5 + [8, 20] + [9, 20] + [7, 10] + [1, 3] * 5
        expected = []
        for state in range(1, 21):
            expected += [2, state, state]
        for state in range(19, -1, -1):
            expected += [2, state, state]
        expected += [1, -7]
        for state in range(1, 21):
            expected += [2, state, state]
        expected += [1, -7]
        expected += [1, 21, 1, 20] * 5
        expected += [4, 0, 20, 0, 0, 4, 20, 0, 20, 20, 3, 10, 0, 10]
        expected += [1, 3, 1, 6, 1, 9, 1, 12, 1, 15]
        self.assertEqual(answers(calls), expected)

    def test_the_longest_list(self):
        calls = ([2, 0, 0, 350] + [255] * 350) * 80
        self.assertEqual(len(calls), 28320)
        self.assertEqual(answers(calls), [1, -6] * 80)

    def test_all_in_one_group(self):
        expected = [1, 1]
        for count in range(1, 79):
            expected += [2, 1, count]
        self.assertEqual(answers([3] + [2, 0, 0, 1, 0] * 78 + [4]), expected + [1, 1])


class WhatIsHandedIn(unittest.TestCase):
    def test_is_the_same_afterwards(self):
        for calls in (LONG, [5], [0, 1, 256], [2, 0, 0, 3, 1, 2, 3], ([2, 0, 0, 2, 4, 5] + [3, 4]) * 40):
            handed_in = list(calls)
            answers(handed_in)
            self.assertEqual(handed_in, calls)

    def test_is_not_changed_for_a_while_either(self):
        self.assertEqual(answers(Unchangeable(LONG)), LONG_ANSWERS)

    def test_can_be_changed_by_its_owner_afterwards(self):
        handed_in = list(LONG)
        answered = answers(handed_in)
        handed_in.clear()
        self.assertEqual(answered, LONG_ANSWERS)


class NothingIsKept(unittest.TestCase):
    def test_two_sessions_do_not_know_of_each_other(self):
        first = answers([0, 2, 1, 2, 1, 9, 2, 0, 0, 1, 1, 3, 2, 0, 0, 1, 1])
        self.assertEqual(first, [1, 2, 1, 9, 2, 1, 3, 1, 2, 2, 2, 4])
        self.assertEqual(answers([4, 1, 0, 7, 1, 5, 6, 2, 0, 0, 0]),
                         [1, -9, 1, 0, 1, -2, 1, -7, 1, -7, 2, 1, 0])

    def test_the_same_session_again(self):
        for _ in range(3):
            self.assertEqual(answers(list(LONG)), LONG_ANSWERS)

    def test_answers_belong_to_the_caller(self):
        answered = answers(LONG)
        answered.clear()
        self.assertEqual(answers(LONG), LONG_ANSWERS)


class Kinds(unittest.TestCase):
    def test_a_list_of_whole_numbers(self):
        answered = answers(LONG)
        self.assertIs(type(answered), list)
        for number in answered:
            self.assertIs(type(number), int)

    def test_an_error_is_its_code_alone_and_nothing_else_is_below_0(self):
        answered = answers(LONG)
        place = 0
        while place < len(answered):
            answer = answered[place + 1:place + 1 + answered[place]]
            if min(answer) < 0:
                self.assertEqual(len(answer), 1)
            place += 1 + len(answer)
        self.assertEqual(place, len(answered))


if __name__ == "__main__":
    unittest.main()
