"""Promise 5 (and the -1 of promise 3): window."""

import itertools
import unittest

from lines import begins, drop, last, periods, run, seen, times_seen, window

GREATEST = 4294967295

# From 8 to 42/5, from 19/2 to 21/2, from 38/3 to 14, from 19 to 20.
EXAMPLE = [begins(8, 20, 1), seen(0), seen(40)]


def ends(least, greatest):
    """The answer with these two ends, pairs of what's above and what's below."""
    return [0, 2, *least, 2, *greatest]


class LeastAndGreatest(unittest.TestCase):
    def check(self, fractions, answer):
        for above, below in fractions:
            with self.subTest(above=above, below=below):
                self.assertEqual(last(*EXAMPLE, window(above, below)), answer)

    def test_all_that_the_first_time_leaves(self):
        self.check([(8, 1), (10, 1), (40, 3), (20, 1)], ends((-1, 1), (1, 1)))

    def test_at_the_beginning_of_a_stretch(self):
        self.check([(19, 2), (38, 3), (19, 1)], ends((1, 1), (1, 1)))

    def test_at_the_end_of_a_stretch(self):
        self.check([(42, 5), (21, 2), (14, 1)], ends((-1, 1), (-1, 1)))

    def test_within_a_stretch(self):
        self.check([(41, 5), (41, 4)], ends((-1, 1), (0, 1)))
        self.check([(13, 1), (39, 4), (39, 2)], ends((0, 1), (1, 1)))
        self.check([(83, 10)], ends((-1, 1), (-1, 2)))
        self.check([(27, 2)], ends((-1, 1), (1, 2)))
        self.check([(77, 6)], ends((1, 2), (1, 1)))
        self.check([(9501, 1000)], ends((249, 250), (1, 1)))
        self.check([(10001, 1000)], ends((-1, 1), (249, 250)))

    def test_just_outside(self):
        self.check([(8401, 1000), (9499, 1000), (10501, 1000)], [-6])
        self.check([(12666, 1000), (14001, 1000), (18999, 1000)], [-6])

    def test_between_stretches(self):
        self.check([(9, 1), (11, 1), (12, 1), (16, 1)], [-6])

    def test_below_lo_and_above_hi(self):
        self.check([(7999, 1000), (7, 1), (1, 1), (1, 1000)], [-6])
        self.check([(20001, 1000), (21, 1), (40, 1), (1000, 1)], [-6])

    def test_not_in_lowest_terms(self):
        self.check([(20, 2), (10000, 1000), (80, 6), (16, 2)], ends((-1, 1), (1, 1)))
        self.check([(38, 4), (9500, 1000)], ends((1, 1), (1, 1)))
        self.check([(54, 4), (13500, 1000)], ends((-1, 1), (1, 2)))
        self.check([(18, 2), (8402, 1000)], [-6])

    def test_what_is_above_is_1000_times_what_is_below(self):
        line = [begins(8, 1000, 1), seen(0), seen(1001)]
        self.assertEqual(run(*line, window(1000, 1), window(1000000, 1000))[3:], [ends((0, 1), (1, 1))] * 2)

    def test_one_time(self):
        line = [begins(8, 20, 1), seen(1999)]
        self.assertEqual(
            run(*line, window(8, 1), window(20, 1), window(27, 2), window(7, 1), window(21, 1))[2:],
            [ends((1998, 1), (2000, 1))] * 3 + [[-6]] * 2)

    def test_below_0(self):
        self.assertEqual(last(begins(20, 20, 3), seen(1), window(20, 1)), ends((-2, 1), (4, 1)))
        self.assertEqual(last(begins(20, 30, 4), seen(0), seen(17), window(20, 1)), ends((-4, 1), (1, 1)))
        # Both ends may be below 0.
        self.assertEqual(last(begins(20, 30, 4), seen(0), seen(17), window(23, 1)), ends((-4, 1), (-2, 1)))

    def test_0(self):
        self.assertEqual(last(begins(20, 20, 0), seen(0), window(20, 1)), ends((0, 1), (0, 1)))
        self.assertEqual(last(begins(20, 20, 3), seen(3), window(20, 1)), ends((0, 1), (6, 1)))
        self.assertEqual(last(begins(20, 20, 1), seen(0), seen(19), window(20, 1)), ends((-1, 1), (0, 1)))

    def test_off_0(self):
        line = [begins(8, 20, 0), seen(7), seen(47)]
        self.assertEqual(
            run(*line, window(8, 1), window(10, 1), window(40, 3), window(20, 1), window(13333, 1000))[3:],
            [ends((7, 1), (7, 1))] * 4 + [[-6]])

    def test_two_of_the_same_beat(self):
        line = [begins(20, 30, 4), seen(100), seen(107)]
        self.assertEqual(last(*line, window(25, 1)), ends((103, 1), (104, 1)))
        self.assertEqual(last(*line, seen(108), window(25, 1)), ends((104, 1), (104, 1)))

    def test_each_time_narrows(self):
        line = [begins(20, 20, 4), seen(40), seen(62), seen(79), seen(101), seen(2000)]
        self.assertEqual(
            [last(*line[:end], window(20, 1)) for end in range(2, 7)],
            [ends((36, 1), (44, 1)), ends((38, 1), (44, 1)), ends((38, 1), (43, 1)),
             ends((38, 1), (43, 1)), ends((38, 1), (43, 1))])

    def test_any_order_of_times(self):
        for order in itertools.permutations((0, 41, 60, 79)):
            with self.subTest(order=order):
                self.assertEqual(
                    last(begins(8, 20, 1), *[seen(time) for time in order], window(10, 1)), ends((0, 1), (0, 1)))

    def test_after_a_drop(self):
        line = [begins(8, 20, 1), seen(0), seen(41), seen(60)]
        self.assertEqual(last(*line, window(10, 1)), ends((0, 1), (1, 1)))
        self.assertEqual(last(*line, drop(41), window(10, 1)), ends((-1, 1), (1, 1)))
        self.assertEqual(last(*line, drop(0), window(10, 1)), ends((40, 1), (41, 1)))
        self.assertEqual(last(*line, drop(0), drop(41), window(10, 1)), ends((59, 1), (61, 1)))
        self.assertEqual(last(*line, drop(0), drop(41), drop(60), window(10, 1)), [-2])


class Refusals(unittest.TestCase):
    def test_no_times(self):
        self.assertEqual(
            run(begins(8, 20, 1), window(8, 1), window(10, 1), window(20, 1), window(20000, 1000))[1:], [[-2]] * 4)

    def test_what_is_below(self):
        for line in ([], [begins(8, 20, 1)], EXAMPLE):
            for above, below in ((10, 0), (0, 0), (10010, 1001), (1000, GREATEST), (GREATEST, GREATEST)):
                with self.subTest(line=line, above=above, below=below):
                    self.assertEqual(last(*line, window(above, below)), [-1])
        for above, below in ((10, 1), (10000, 1000), (9990, 999)):
            self.assertEqual(last(*EXAMPLE, window(above, below)), ends((-1, 1), (1, 1)))

    def test_what_is_above(self):
        for line in ([], [begins(8, 1000, 1)], EXAMPLE):
            for above, below in ((0, 1), (0, 1000), (1001, 1), (2001, 2), (1000001, 1000), (GREATEST, 1)):
                with self.subTest(line=line, above=above, below=below):
                    self.assertEqual(last(*line, window(above, below)), [-1])
        for above, below in ((1, 1), (1, 1000), (1000, 1), (2000, 2), (1000000, 1000)):
            with self.subTest(above=above, below=below):
                self.assertEqual(last(*EXAMPLE, window(above, below)), [-6])

    def test_the_first_that_is_due(self):
        # No times, and no period either.
        self.assertEqual(run(begins(8, 20, 1), window(7, 1), window(21, 1), window(1, 1000))[1:], [[-2]] * 3)
        # No fraction to ask for, no times, no period.
        self.assertEqual(run(begins(8, 20, 1), window(10, 0), window(0, 1), window(1001, 1))[1:], [[-1]] * 3)
        # No fraction to ask for, no period.
        self.assertEqual(run(*EXAMPLE, window(0, 1), window(11011, 1001))[3:], [[-1]] * 2)

    def test_nothing_changes(self):
        self.assertEqual(
            run(*EXAMPLE, window(27, 2), window(27, 0), window(11, 1), window(27, 2), times_seen(), periods())[3:],
            [ends((-1, 1), (1, 2)), [-1], [-6], ends((-1, 1), (1, 2)), [2, 2, 0, 40],
             [4, 16, 8, 1, 42, 5, 19, 2, 21, 2, 38, 3, 14, 1, 19, 1, 20, 1]])


class AheadOfBegins(unittest.TestCase):
    def test_first(self):
        self.assertEqual(run(window(1, 1)), [[-2]])
        self.assertEqual(run(window(2, 1)), [[-2]])
        self.assertEqual(run(window(1, 0)), [[-1]])
        self.assertEqual(run(window(0, 1)), [[-1]])

    def test_with_a_time(self):
        self.assertEqual(
            run(seen(3), seen(2000), window(1, 1), window(7, 7), window(2, 1))[2:],
            [ends((3, 1), (3, 1)), ends((3, 1), (3, 1)), [-6]])


if __name__ == "__main__":
    unittest.main()
