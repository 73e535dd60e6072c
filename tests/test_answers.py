"""The interface: how calls are handed in, how answers are given back."""

import unittest

from evenbeats.beat import answers

# Thirty calls, each of 0 to 10 among them with what it answers and how it refuses.
CALLS_AND_ANSWERS = (
    ([0, 8, 20, 1], [1, 0]),
    ([10], [2, 0, 0]),
    ([9], [1, 1]),
    ([1, 0], [1, 1]),
    ([1, 40], [1, 4]),
    ([3], [18, 4, 16, 8, 1, 42, 5, 19, 2, 21, 2, 38, 3, 14, 1, 19, 1, 20, 1]),
    ([4, 10, 1], [4, 1, 2, 0, 4]),
    ([4, 11, 1], [1, 0]),
    ([4, 11, 0], [1, -1]),
    ([5, 60], [1, 2]),
    ([5, 5], [1, 0]),
    ([5, 2001], [1, -1]),
    ([6, 27, 2], [7, 0, 2, -1, 1, 2, 1, 2]),
    ([6, 11, 1], [1, -6]),
    ([7, 3], [4, 2, 2, 0, 2]),
    ([7, 4], [1, -2]),
    ([8, 27, 2, 20], [7, 0, 2, 26, 1, 2, 55, 2]),
    ([8, 27, 2, 2001], [1, -1]),
    ([9], [1, 0]),
    ([10], [4, 2, 2, 0, 40]),
    ([2, 3], [1, -2]),
    ([2, 40], [1, 1]),
    ([1, 2001], [1, -1]),
    ([6, 27, 2], [7, 0, 2, -1, 1, 2, 1, 1]),
    ([8, 20, 1, 0], [7, 0, 2, -1, 1, 2, 1, 1]),
    ([7, 0], [3, 1, 1, 0]),
    ([9], [1, 1]),
    ([10], [3, 1, 1, 0]),
    ([0, 7, 8, 0], [1, -1]),
    ([2, 0], [1, 1]))
LINE = [number for call, _ in CALLS_AND_ANSWERS for number in call]
TOLD = [number for _, told in CALLS_AND_ANSWERS for number in told]


class Answers(unittest.TestCase):
    def test_the_examples(self):
        self.assertEqual(
            answers([0, 8, 20, 1, 1, 0, 1, 40, 3]),
            [1, 0, 1, 1, 1, 4, 18, 4, 16, 8, 1, 42, 5, 19, 2, 21, 2, 38, 3, 14, 1, 19, 1, 20, 1])
        self.assertEqual(
            answers([0, 8, 20, 1, 1, 0, 1, 40, 6, 10, 1, 8, 10, 1, 35, 7, 2, 9, 10]),
            [1, 0, 1, 1, 1, 4, 7, 0, 2, -1, 1, 2, 1, 1, 7, 0, 2, 39, 1, 2, 41, 1, 4, 2, 2, 0, 3, 1, 0, 4, 2, 2, 0, 40])
        self.assertEqual(
            answers([0, 20, 20, 3, 1, 40, 1, 81, 8, 20, 1, 0, 8, 20, 1, 2000]),
            [1, 0, 1, 1, 1, 1, 7, 0, 2, -2, 1, 2, 3, 1, 7, 0, 2, 1998, 1, 2, 2003, 1])
        self.assertEqual(answers([7, 0, 9, 10, 6, 1, 1]), [2, 0, 0, 1, 1, 2, 0, 0, 1, -2])

    def test_each_call(self):
        self.assertEqual(len(CALLS_AND_ANSWERS), 30)
        self.assertEqual({call[0] for call, _ in CALLS_AND_ANSWERS}, set(range(11)))
        self.assertEqual(answers(LINE), TOLD)

    def test_a_list_without_members_is_told(self):
        self.assertEqual(answers([4, 1, 1]), [2, 1, 0])
        self.assertEqual(answers([7, 0]), [2, 0, 0])
        self.assertEqual(answers([10]), [2, 0, 0])

    def test_what_is_handed_in_is_not_changed(self):
        handed = list(LINE)
        answers(handed)
        self.assertEqual(handed, LINE)

    def test_what_is_handed_in_is_only_read(self):
        class OnlyRead(list):
            def refuse(self, *_):
                raise AssertionError("what is handed in was changed")

            __setitem__ = __delitem__ = __iadd__ = __imul__ = refuse
            append = clear = extend = insert = pop = remove = reverse = sort = refuse

        self.assertEqual(answers(OnlyRead(LINE)), TOLD)

    def test_a_second_run_knows_nothing_of_the_first(self):
        first = answers(LINE)
        self.assertEqual(answers([3]), [6, 1, 4, 1, 1, 1, 1])
        self.assertEqual(answers([2, 0]), [1, -2])
        self.assertEqual(answers([6, 1, 1, 7, 0, 8, 1, 1, 0, 9, 10]), [1, -2, 2, 0, 0, 1, -2, 1, 1, 2, 0, 0])
        self.assertEqual(answers(LINE), first)

    def test_what_is_given_back_is_new_each_time(self):
        answers(LINE).clear()
        self.assertEqual(answers(LINE), TOLD)

    def test_whole_numbers_in_a_list(self):
        told = answers(LINE)
        self.assertIs(type(told), list)
        self.assertEqual({type(number) for number in told}, {int})

    def test_thirty_calls(self):
        self.assertEqual(answers([3] * 30), [6, 1, 4, 1, 1, 1, 1] * 30)

    def test_many_stretches_thirty_times(self):
        told = answers([0, 8, 1000, 0, 1, 0, 1, 2000] + [3] * 27)
        self.assertEqual(told[:6], [1, 0, 1, 1, 1, 249])
        self.assertEqual(told[6:9], [998, 249, 996])
        self.assertEqual(len(told), 6 + 27 * 999)


if __name__ == "__main__":
    unittest.main()
