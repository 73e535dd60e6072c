"""Promise 3: fits."""

import unittest

from lines import begins, fits, last, run, seen

GREATEST = 4294967295

# From 8 to 42/5, from 19/2 to 21/2, from 38/3 to 14, from 19 to 20.
EXAMPLE = [begins(8, 20, 1), seen(0), seen(40)]


class WhetherItIsAPeriod(unittest.TestCase):
    def check(self, fractions, answer):
        for above, below in fractions:
            with self.subTest(above=above, below=below):
                self.assertEqual(last(*EXAMPLE, fits(above, below)), answer)

    def test_within_a_stretch(self):
        self.check([(41, 5), (8001, 1000)], [1, 2, 0, 5])
        self.check([(10, 1)], [1, 2, 0, 4])
        self.check([(13, 1), (40, 3)], [1, 2, 0, 3])
        self.check([(39, 2)], [1, 2, 0, 2])

    def test_the_ends_belong_to_it(self):
        self.check([(8, 1), (42, 5)], [1, 2, 0, 5])
        self.check([(19, 2), (21, 2)], [1, 2, 0, 4])
        self.check([(38, 3), (14, 1)], [1, 2, 0, 3])
        self.check([(19, 1), (20, 1)], [1, 2, 0, 2])

    def test_just_outside(self):
        self.check([(8401, 1000), (9499, 1000), (10501, 1000)], [0])
        self.check([(12666, 1000), (14001, 1000), (18999, 1000)], [0])

    def test_below_lo_and_above_hi(self):
        self.check([(7999, 1000), (1, 1), (1, 1000), (7, 1)], [0])
        self.check([(20001, 1000), (21, 1), (40, 1), (1000, 1)], [0])

    def test_between_stretches(self):
        self.check([(9, 1), (11, 1), (12, 1), (16, 1)], [0])

    def test_not_in_lowest_terms(self):
        self.check([(84, 10), (8400, 1000), (8000, 1000), (16, 2)], [1, 2, 0, 5])
        self.check([(38, 4), (9500, 1000), (20, 2)], [1, 2, 0, 4])
        self.check([(8402, 1000), (18, 2)], [0])

    def test_a_single_number(self):
        line = [begins(8, 20, 0), seen(0), seen(40)]
        self.assertEqual(last(*line, fits(40, 3)), [1, 2, 0, 3])
        self.assertEqual(last(*line, fits(13320, 999)), [1, 2, 0, 3])
        self.assertEqual(last(*line, fits(13333, 1000)), [0])
        self.assertEqual(last(*line, fits(13334, 1000)), [0])

    def test_no_times(self):
        self.assertEqual(
            run(begins(8, 20, 1), fits(8, 1), fits(20, 1), fits(27, 2), fits(7999, 1000), fits(20001, 1000))[1:],
            [[1, 0], [1, 0], [1, 0], [0], [0]])

    def test_one_time(self):
        self.assertEqual(
            run(begins(8, 20, 1), seen(1999), fits(8, 1), fits(20, 1), fits(7, 1), fits(21, 1))[2:],
            [[1, 1, 0], [1, 1, 0], [0], [0]])

    def test_the_beats_stand_in_the_order_of_the_times(self):
        self.assertEqual(
            last(begins(9, 20, 2), seen(2000), seen(0), seen(1001), seen(12), seen(10), fits(10, 1)),
            [1, 5, 0, 1, 1, 100, 200])

    def test_hi_1000(self):
        self.assertEqual(
            run(begins(8, 1000, 1), seen(0), seen(1001), fits(1000, 1), fits(1000000, 1000))[3:],
            [[1, 2, 0, 1], [1, 2, 0, 1]])


class Refusals(unittest.TestCase):
    def check(self, fractions, answer):
        for above, below in fractions:
            for line in ([], EXAMPLE, [begins(8, 1000, 0)]):
                with self.subTest(above=above, below=below, line=line):
                    self.assertEqual(last(*line, fits(above, below))[:1] == [-1], answer)

    def test_what_is_below(self):
        self.check([(10, 0), (0, 0), (10, 1001), (10010, 1001), (1000, GREATEST), (GREATEST, GREATEST)], True)
        self.check([(10, 1), (10, 2), (10, 1000), (10000, 1000), (10000, 999)], False)

    def test_what_is_above(self):
        self.check([(0, 1), (0, 1000), (1001, 1), (2001, 2), (1000001, 1000), (GREATEST, 1), (GREATEST, 1000)], True)
        self.check([(1, 1), (1, 1000), (1000, 1), (2000, 2), (1000000, 1000)], False)

    def test_a_refusal_is_told_alone(self):
        self.assertEqual(last(*EXAMPLE, fits(10, 0)), [-1])

    def test_nothing_changes(self):
        self.assertEqual(
            run(*EXAMPLE, fits(10, 1), fits(10, 0), fits(11, 1), fits(10, 1))[3:],
            [[1, 2, 0, 4], [-1], [0], [1, 2, 0, 4]])


if __name__ == "__main__":
    unittest.main()
