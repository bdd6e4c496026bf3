import contextlib
import io
import unittest

from wheeldrawn.ring import answers

CALLS = [0, 12, 1, 5, 1, 8, 2, 0, 2, 1, 3, 0, 11, 1, 4, 0, 7, 0, 4, 1, 0, 1, 5, 0, 6, 3, 6, 5, 2, 7, 1, 12, 0, 2, 2, 0]
TOLD = [1, 0, 1, 0, 1, 1, 3, 12, 5, 1, 3, 3, 2, 4, 1, 4, 2, 1, 1, 1, -6, 1, 48, 3, 2, 4, 8, 1, 0, 1, -2, 1, -1, 1, -1,
        3, 12, 5, 1]


class OnlyRead(list):
    """A list that tells whoever changes it."""

    def refuse(self, *given, **named):
        raise AssertionError("the list that was handed in is changed")

    append = extend = insert = pop = remove = clear = sort = reverse = refuse
    __setitem__ = __delitem__ = __iadd__ = __imul__ = refuse


# All thirteen calls on a ring of 12 teeth with wheels of 5 and 8, each with its answer.
ALL_ON_ONE_BOX = [
    ([0, 12], [0]), ([1, 5], [0]), ([1, 8], [1]), ([2, 1], [3, 2, 4]), ([3, 0, 11, 1], [4]), ([4, 0, 7, 0], [1, 1]),
    ([5, 0], [48]), ([6, 3], [2, 4, 8]), ([7, 0, 0, 1, 6], [3, 2]), ([8, 0, 0, 1, 6], [0]), ([9, 1], [4]),
    ([10, 0, 1], [12, 24]), ([11, 0, 1, 2, 3], [8]), ([12], [12, 2, 5, 8]),
]


def in_one_list(asked):
    return [number for call, told in asked for number in call]


def told_in_one_list(asked):
    return [number for call, told in asked for number in [len(told)] + told]


class AllCalls(unittest.TestCase):
    def test_rising(self):
        self.assertEqual(answers(in_one_list(ALL_ON_ONE_BOX)), told_in_one_list(ALL_ON_ONE_BOX))

    def test_in_any_order_behind_the_wheels(self):
        made = ALL_ON_ONE_BOX[:3]
        asked = ALL_ON_ONE_BOX[3:]
        for first in range(len(asked)):
            for turned in [asked[first:] + asked[:first], (asked[first:] + asked[:first])[::-1]]:
                self.assertEqual(answers(in_one_list(made + turned)), told_in_one_list(made + turned))

    def test_falling_before_the_begin(self):
        early = [(call, [-9]) for call, told in ALL_ON_ONE_BOX[:0:-1]]
        asked = early + ALL_ON_ONE_BOX
        self.assertEqual(answers(in_one_list(asked)), told_in_one_list(asked))

    def test_each_two_calls_behind_one_another(self):
        asked = ALL_ON_ONE_BOX[3:]
        for one in asked:
            for other in asked:
                calls = ALL_ON_ONE_BOX[:3] + [one, other, one]
                self.assertEqual(answers(in_one_list(calls)), told_in_one_list(calls))

    def test_sixty_calls(self):
        asked = ALL_ON_ONE_BOX + ALL_ON_ONE_BOX[3:] * 4 + [([12], [12, 2, 5, 8])] * 2
        self.assertEqual(len(asked), 60)
        self.assertEqual(answers(in_one_list(asked)), told_in_one_list(asked))

    def test_asked_twice(self):
        calls = in_one_list(ALL_ON_ONE_BOX)
        self.assertEqual(answers(calls), answers(calls))
        self.assertEqual(calls, in_one_list(ALL_ON_ONE_BOX))
        self.assertEqual(answers([12]), [1, -9])

    def test_the_list_handed_in_is_only_read(self):
        self.assertEqual(answers(OnlyRead(in_one_list(ALL_ON_ONE_BOX))), told_in_one_list(ALL_ON_ONE_BOX))

    def test_whole_numbers_alone(self):
        told = answers(in_one_list(ALL_ON_ONE_BOX))
        self.assertIs(type(told), list)
        self.assertEqual({type(number) for number in told}, {int})


class Answers(unittest.TestCase):
    def test_count_ahead_of_each_calls_numbers(self):
        self.assertEqual(answers(CALLS), TOLD)

    def test_one_call(self):
        self.assertEqual(answers([0, 3]), [1, 0])
        self.assertEqual(answers([0, 2]), [1, -1])
        self.assertEqual(answers([2, 0]), [1, -9])

    def test_sixty_calls(self):
        calls = [0, 60] + [1, 59] * 6 + [3, 5, 59, 100000] * 53
        self.assertEqual(answers(calls), [1, 0, 1, 0, 1, 1, 1, 2, 1, 3, 1, 4, 1, 5] + [1, 19] * 53)

    def test_the_list_handed_in_is_not_changed(self):
        calls = list(CALLS)
        answers(calls)
        self.assertEqual(calls, CALLS)
        self.assertEqual(answers(OnlyRead(CALLS)), TOLD)

    def test_nothing_is_kept_from_one_time_to_the_next(self):
        self.assertEqual(answers(CALLS), answers(CALLS))
        self.assertEqual(answers([2, 0]), [1, -9])
        self.assertEqual(answers([0, 12, 2, 0]), [1, 0, 1, -2])

    def test_a_list_given_back_is_the_askers_own(self):
        told = answers(CALLS)
        told.clear()
        self.assertEqual(answers(CALLS), TOLD)

    def test_list_of_whole_numbers(self):
        told = answers(CALLS)
        self.assertIs(type(told), list)
        self.assertEqual({type(number) for number in told}, {int})

    def test_prints_nothing(self):
        printed = io.StringIO()
        with contextlib.redirect_stdout(printed), contextlib.redirect_stderr(printed):
            answers(CALLS)
        self.assertEqual(printed.getvalue(), "")


if __name__ == "__main__":
    unittest.main()
