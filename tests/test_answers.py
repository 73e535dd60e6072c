"""The interface: how calls are handed in, how answers are given back."""

import unittest

from evenbeats.beat import answers

# begins, two times seen, and each other call with a refusal of it where it has one.
LINE = [0, 8, 20, 1, 1, 0, 1, 40, 3, 4, 10, 1, 4, 11, 1, 4, 11, 0, 5, 60, 5, 5, 5, 2001,
        2, 3, 2, 40, 1, 2001, 0, 7, 8, 0]
TOLD = [1, 0, 1, 1, 1, 4, 18, 4, 16, 8, 1, 42, 5, 19, 2, 21, 2, 38, 3, 14, 1, 19, 1, 20, 1,
        4, 1, 2, 0, 4, 1, 0, 1, -1, 1, 2, 1, 0, 1, -1, 1, -2, 1, 1, 1, -1, 1, -1]


class Answers(unittest.TestCase):
    def test_the_example(self):
        self.assertEqual(
            answers([0, 8, 20, 1, 1, 0, 1, 40, 3]),
            [1, 0, 1, 1, 1, 4, 18, 4, 16, 8, 1, 42, 5, 19, 2, 21, 2, 38, 3, 14, 1, 19, 1, 20, 1])

    def test_each_call(self):
        self.assertEqual(answers(LINE), TOLD)

    def test_a_list_without_members_is_told(self):
        self.assertEqual(answers([4, 1, 1]), [2, 1, 0])

    def test_what_is_handed_in_is_not_changed(self):
        handed = list(LINE)
        answers(handed)
        self.assertEqual(handed, LINE)

    def test_what_is_handed_in_is_only_read(self):
        class OnlyRead(list):
            def refuse(self, *_):
                raise AssertionError("what is handed in was changed")

            __setitem__ = __delitem__ = __iadd__ = __imul__ = refuse
            append = clear = extend = insert = pop = remove = reverse = sort = refuse

        self.assertEqual(answers(OnlyRead(LINE)), TOLD)

    def test_a_second_run_knows_nothing_of_the_first(self):
        first = answers(LINE)
        self.assertEqual(answers([3]), [6, 1, 4, 1, 1, 1, 1])
        self.assertEqual(answers([2, 0]), [1, -2])
        self.assertEqual(answers(LINE), first)

    def test_what_is_given_back_is_new_each_time(self):
        answers(LINE).clear()
        self.assertEqual(answers(LINE), TOLD)

    def test_whole_numbers_in_a_list(self):
        told = answers(LINE)
        self.assertIs(type(told), list)
        self.assertEqual({type(number) for number in told}, {int})

    def test_thirty_calls(self):
        self.assertEqual(answers([3] * 30), [6, 1, 4, 1, 1, 1, 1] * 30)

    def test_many_stretches_thirty_times(self):
        told = answers([0, 8, 1000, 0, 1, 0, 1, 2000] + [3] * 27)
        self.assertEqual(told[:6], [1, 0, 1, 1, 1, 249])
        self.assertEqual(told[6:9], [998, 249, 996])
        self.assertEqual(len(told), 6 + 27 * 999)


if __name__ == "__main__":
    unittest.main()
