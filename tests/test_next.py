"""Promise 6 (and the -1 of promise 3): next."""

import unittest

from lines import begins, drop, last, next_one, periods, run, seen, times_seen, window

GREATEST = 4294967295

# From 8 to 42/5, from 19/2 to 21/2, from 38/3 to 14, from 19 to 20.
EXAMPLE = [begins(8, 20, 1), seen(0), seen(40)]


def ends(least, greatest):
    """The answer with these two ends, pairs of what's above and what's below."""
    return [0, 2, *least, 2, *greatest]


def whole(least, greatest):
    """The answer with two whole numbers as its ends."""
    return ends((least, 1), (greatest, 1))


class TheNextOne(unittest.TestCase):
    def check(self, line, period, expected):
        for time, answer in expected:
            with self.subTest(line=line, period=period, time=time):
                self.assertEqual(last(*line, next_one(*period, time)), answer)

    def test_between_the_times(self):
        self.check(EXAMPLE, (10, 1), [(35, whole(39, 41)), (25, whole(29, 31)), (5, whole(9, 11))])

    def test_just_the_greatest_and_just_above_it(self):
        self.check(EXAMPLE, (10, 1), [
            (1, whole(-1, 1)), (2, whole(9, 11)), (11, whole(9, 11)), (12, whole(19, 21)),
            (41, whole(39, 41)), (42, whole(49, 51)), (1991, whole(1989, 1991)), (1992, whole(1999, 2001))])

    def test_the_least_may_be_ahead_of_the_time(self):
        self.check(EXAMPLE, (10, 1), [
            (36, whole(39, 41)), (38, whole(39, 41)), (39, whole(39, 41)), (40, whole(39, 41))])

    def test_2000_and_2001(self):
        self.check(EXAMPLE, (10, 1), [(2000, whole(1999, 2001)), (2001, [-1]), (GREATEST, [-1])])
        self.check([begins(20, 20, 3), seen(40), seen(81)], (20, 1), [(2000, whole(1998, 2003)), (2001, [-1])])

    def test_far_ahead_of_the_first_time(self):
        self.check([begins(20, 20, 3), seen(2000)], (20, 1), [
            (0, whole(-3, 3)), (3, whole(-3, 3)), (4, whole(17, 23)), (1000, whole(997, 1003)),
            (1003, whole(997, 1003)), (1004, whole(1017, 1023)), (1983, whole(1977, 1983))])

    def test_ahead_of_all_by_less_than_a_period(self):
        self.check([begins(20, 20, 3), seen(40)], (20, 1), [
            (23, whole(17, 23)), (24, whole(37, 43)), (30, whole(37, 43)), (43, whole(37, 43)), (44, whole(57, 63))])

    def test_far_behind_the_last_time(self):
        self.check([begins(20, 20, 3), seen(0)], (20, 1), [
            (1983, whole(1977, 1983)), (1984, whole(1997, 2003)), (2000, whole(1997, 2003))])
        self.check([begins(1000, 1000, 249), seen(0)], (1000, 1), [
            (249, whole(-249, 249)), (250, whole(751, 1249)), (2000, whole(1751, 2249))])

    def test_below_0(self):
        self.check([begins(20, 20, 3), seen(40), seen(81)], (20, 1), [(0, whole(-2, 3)), (4, whole(18, 23))])
        self.check(EXAMPLE, (41, 5), [(0, whole(-1, 0))])
        # By 27/2 less than this the greatest would be below 0.
        self.check([begins(8, 20, 1), seen(27), seen(67)], (27, 2), [(0, ends((-1, 1), (1, 2)))])

    def test_at_0(self):
        self.check([begins(20, 20, 0), seen(40)], (20, 1), [(0, whole(0, 0)), (1, whole(20, 20))])
        self.check([begins(20, 20, 3), seen(3)], (20, 1), [(9, whole(20, 26)), (6, whole(0, 6))])

    def test_no_whole_numbers(self):
        self.check(EXAMPLE, (27, 2), [
            (0, ends((-1, 1), (1, 2))), (1, ends((25, 2), (14, 1))), (14, ends((25, 2), (14, 1))),
            (15, ends((26, 1), (55, 2))), (20, ends((26, 1), (55, 2))), (27, ends((26, 1), (55, 2))),
            (28, ends((79, 2), (41, 1)))])
        self.check(EXAMPLE, (40, 3), [
            (13, ends((37, 3), (43, 3))), (14, ends((37, 3), (43, 3))), (15, ends((77, 3), (83, 3))),
            (28, whole(39, 41)), (41, whole(39, 41)), (42, ends((157, 3), (163, 3)))])

    def test_no_whole_numbers_ahead_of_the_first_time(self):
        self.check([begins(8, 20, 1), seen(40), seen(80)], (40, 3), [
            (0, whole(-1, 1)), (1, whole(-1, 1)), (2, ends((37, 3), (43, 3))), (14, ends((37, 3), (43, 3))),
            (15, ends((77, 3), (83, 3))), (28, whole(39, 41))])

    def test_not_in_lowest_terms(self):
        self.check(EXAMPLE, (80, 6), [(13, ends((37, 3), (43, 3))), (28, whole(39, 41))])
        self.check(EXAMPLE, (10000, 1000), [(35, whole(39, 41)), (42, whole(49, 51))])
        self.check(EXAMPLE, (54, 4), [(20, ends((26, 1), (55, 2)))])

    def test_greater_numbers_below(self):
        self.check(EXAMPLE, (10001, 1000), [
            (0, ends((-1, 1), (249, 250))), (1, ends((9001, 1000), (10997, 1000)))])
        self.check(EXAMPLE, (9999, 1000), [(10, ends((9003, 1000), (10999, 1000)))])

    def test_the_ends_of_a_stretch_and_beside_it(self):
        self.check(EXAMPLE, (19, 2), [(40, ends((97, 2), (97, 2))), (39, whole(39, 39))])
        self.check(EXAMPLE, (21, 2), [(40, whole(41, 41)), (41, whole(41, 41)), (42, ends((103, 2), (103, 2)))])
        self.check(EXAMPLE, (20, 1), [(40, whole(39, 41))])
        for period in ((9499, 1000), (10501, 1000), (18999, 1000), (11, 1), (7999, 1000), (20001, 1000), (1, 1)):
            self.check(EXAMPLE, period, [(0, [-6]), (40, [-6]), (2000, [-6])])

    def test_off_0(self):
        self.check([begins(8, 20, 0), seen(7), seen(47)], (40, 3), [
            (7, whole(7, 7)), (8, ends((61, 3), (61, 3))), (21, ends((101, 3), (101, 3))), (47, whole(47, 47)),
            (0, whole(7, 7))])

    def test_what_is_above_is_1000_times_what_is_below(self):
        line = [begins(8, 1000, 1), seen(0), seen(1001)]
        self.check(line, (1000, 1), [(0, whole(0, 1)), (2, whole(1000, 1001)), (2000, whole(2000, 2001))])
        self.check(line, (1000000, 1000), [(2, whole(1000, 1001))])

    def test_it_is_window_and_whole_periods(self):
        line = [begins(20, 30, 4), seen(0), seen(17)]
        self.assertEqual(
            run(*line, window(23, 1), next_one(23, 1, 0), next_one(23, 1, 21), next_one(23, 1, 22))[3:],
            [whole(-4, -2), whole(19, 21), whole(19, 21), whole(42, 44)])

    def test_after_a_drop(self):
        line = [begins(8, 20, 1), seen(0), seen(41), seen(60)]
        self.assertEqual(
            run(*line, next_one(10, 1, 5), drop(41), next_one(10, 1, 5), drop(0), next_one(10, 1, 5))[4::2],
            [whole(10, 11), whole(9, 11), whole(9, 11)])


class Refusals(unittest.TestCase):
    def test_no_times(self):
        self.assertEqual(
            run(begins(8, 20, 1), next_one(8, 1, 0), next_one(10, 1, 2000), next_one(20000, 1000, 5))[1:], [[-2]] * 3)

    def test_what_is_below(self):
        for line in ([], [begins(8, 20, 1)], EXAMPLE):
            for above, below in ((10, 0), (0, 0), (10010, 1001), (1000, GREATEST), (GREATEST, GREATEST)):
                with self.subTest(line=line, above=above, below=below):
                    self.assertEqual(last(*line, next_one(above, below, 35)), [-1])
        for above, below in ((10, 1), (10000, 1000), (9990, 999)):
            self.assertEqual(last(*EXAMPLE, next_one(above, below, 35)), whole(39, 41))

    def test_what_is_above(self):
        for line in ([], [begins(8, 1000, 1)], EXAMPLE):
            for above, below in ((0, 1), (0, 1000), (1001, 1), (2001, 2), (1000001, 1000), (GREATEST, 1)):
                with self.subTest(line=line, above=above, below=below):
                    self.assertEqual(last(*line, next_one(above, below, 35)), [-1])
        for above, below in ((1, 1), (1, 1000), (1000, 1), (2000, 2), (1000000, 1000)):
            with self.subTest(above=above, below=below):
                self.assertEqual(last(*EXAMPLE, next_one(above, below, 35)), [-6])

    def test_the_first_that_is_due(self):
        none = [begins(8, 20, 1)]
        # A time above 2000, and no times, or no period, or both.
        self.assertEqual(run(*none, next_one(10, 1, 2001), next_one(7, 1, 2001))[1:], [[-1]] * 2)
        self.assertEqual(last(*EXAMPLE, next_one(11, 1, 2001)), [-1])
        # No fraction to ask for, and no times, or no period, or a time above 2000.
        self.assertEqual(run(*none, next_one(10, 0, 5), next_one(0, 1, 5), next_one(1001, 1, 5))[1:], [[-1]] * 3)
        self.assertEqual(run(*EXAMPLE, next_one(0, 1, 5), next_one(11, 0, 2001))[3:], [[-1]] * 2)
        # No times, and no period either.
        self.assertEqual(run(*none, next_one(7, 1, 2000), next_one(21, 1, 0))[1:], [[-2]] * 2)

    def test_nothing_changes(self):
        self.assertEqual(
            run(*EXAMPLE, next_one(10, 1, 35), next_one(10, 0, 35), next_one(10, 1, 2001), next_one(11, 1, 35),
                next_one(10, 1, 35), times_seen(), periods())[3:],
            [whole(39, 41), [-1], [-1], [-6], whole(39, 41), [2, 2, 0, 40],
             [4, 16, 8, 1, 42, 5, 19, 2, 21, 2, 38, 3, 14, 1, 19, 1, 20, 1]])


class AheadOfBegins(unittest.TestCase):
    def test_first(self):
        self.assertEqual(run(next_one(1, 1, 0)), [[-2]])
        self.assertEqual(run(next_one(2, 1, 2000)), [[-2]])
        self.assertEqual(run(next_one(1, 1, 2001)), [[-1]])
        self.assertEqual(run(next_one(1, 0, 0)), [[-1]])

    def test_with_a_time(self):
        self.assertEqual(
            run(seen(3), next_one(1, 1, 0), next_one(1, 1, 2000), next_one(5, 5, 3), next_one(2, 1, 0))[1:],
            [whole(0, 0), whole(2000, 2000), whole(3, 3), [-6]])


if __name__ == "__main__":
    unittest.main()
