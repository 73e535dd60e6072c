"""Ahead of any begins, and promise 1."""

import unittest

from lines import begins, could, drop, fits, last, periods, run, seen

GREATEST = 4294967295


class AheadOfBegins(unittest.TestCase):
    def test_only_the_number_1_is_a_period(self):
        self.assertEqual(run(periods()), [[1, 4, 1, 1, 1, 1]])

    def test_there_are_no_times(self):
        self.assertEqual(run(fits(1, 1)), [[1, 0]])
        self.assertEqual(run(drop(0)), [[-2]])

    def test_others_are_no_periods(self):
        self.assertEqual(run(fits(2, 1), fits(1, 2), fits(999, 1000), fits(1001, 1000)), [[0]] * 4)

    def test_seen_may_be_first(self):
        self.assertEqual(run(seen(3), seen(2000), fits(1, 1)), [[1], [1], [1, 2, 0, 1997]])

    def test_could_may_be_first(self):
        self.assertEqual(run(could(0), could(2000), could(2001)), [[1], [1], [-1]])

    def test_refused_begins_may_be_first(self):
        self.assertEqual(run(begins(7, 9, 0), periods()), [[-1], [1, 4, 1, 1, 1, 1]])

    def test_those_bounds_can_not_be_handed_in(self):
        self.assertEqual(run(begins(1, 1, 0)), [[-1]])


class Begins(unittest.TestCase):
    def test_answers_0(self):
        self.assertEqual(run(begins(8, 20, 1)), [[0]])

    def test_all_from_lo_to_hi_are_periods(self):
        self.assertEqual(last(begins(8, 20, 1), periods()), [1, 4, 8, 1, 20, 1])

    def test_lo_is_8_or_more(self):
        self.assertEqual(run(begins(8, 9, 0)), [[0]])
        self.assertEqual(run(begins(7, 9, 0)), [[-1]])
        self.assertEqual(run(begins(0, 9, 0)), [[-1]])

    def test_hi_is_1000_or_less(self):
        self.assertEqual(run(begins(8, 1000, 0)), [[0]])
        self.assertEqual(run(begins(8, 1001, 0)), [[-1]])
        self.assertEqual(run(begins(1001, 1001, 0)), [[-1]])

    def test_lo_is_not_above_hi(self):
        self.assertEqual(run(begins(30, 30, 0), periods()), [[0], [1, 4, 30, 1, 30, 1]])
        self.assertEqual(run(begins(31, 30, 0)), [[-1]])
        self.assertEqual(run(begins(1000, 1000, 0)), [[0]])

    def test_lo_is_more_than_4_times_off(self):
        self.assertEqual(run(begins(8, 20, 2)), [[-1]])
        self.assertEqual(run(begins(9, 20, 2)), [[0]])
        self.assertEqual(run(begins(40, 50, 10)), [[-1]])
        self.assertEqual(run(begins(41, 50, 10)), [[0]])
        self.assertEqual(run(begins(1000, 1000, 250)), [[-1]])
        self.assertEqual(run(begins(1000, 1000, 249)), [[0]])

    def test_great_numbers(self):
        self.assertEqual(run(begins(GREATEST, GREATEST, 0)), [[-1]])
        self.assertEqual(run(begins(8, GREATEST, 0)), [[-1]])
        self.assertEqual(run(begins(GREATEST, 20, 0)), [[-1]])
        self.assertEqual(run(begins(8, 20, GREATEST)), [[-1]])
        self.assertEqual(run(begins(GREATEST, GREATEST, GREATEST)), [[-1]])

    def test_takes_all_times_away(self):
        self.assertEqual(
            run(begins(8, 20, 1), seen(0), seen(40), begins(8, 20, 1), periods(), drop(0), fits(11, 1)),
            [[0], [1], [4], [0], [1, 4, 8, 1, 20, 1], [-2], [1, 0]])

    def test_refused_leaves_all_as_it_was(self):
        for refused in (begins(7, 9, 0), begins(8, 1001, 0), begins(11, 10, 0), begins(12, 15, 3)):
            with self.subTest(refused=refused):
                self.assertEqual(
                    run(begins(8, 20, 1), seen(0), seen(40), refused, periods(), fits(20, 2), could(60),
                        drop(0), drop(40), periods()),
                    [[0], [1], [4], [-1],
                     [4, 16, 8, 1, 42, 5, 19, 2, 21, 2, 38, 3, 14, 1, 19, 1, 20, 1],
                     [1, 2, 0, 4], [2], [1], [1], [1, 4, 8, 1, 20, 1]])

    def test_the_new_off_counts(self):
        self.assertEqual(
            last(begins(8, 20, 1), begins(8, 20, 0), seen(0), seen(40), periods()),
            [4, 16, 8, 1, 8, 1, 10, 1, 10, 1, 40, 3, 40, 3, 20, 1, 20, 1])


if __name__ == "__main__":
    unittest.main()
