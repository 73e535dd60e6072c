"""Promise 2: seen and drop."""

import itertools
import unittest

from lines import begins, could, drop, fits, last, periods, run, seen

GREATEST = 4294967295

# Ten times of the beat 8, so that a line has room for more.
TEN = [begins(8, 8, 0)] + [seen(8 * n) for n in range(10)]


class Seen(unittest.TestCase):
    def test_answers_how_many_stretches(self):
        self.assertEqual(run(begins(8, 20, 1), seen(0), seen(40), seen(60)), [[0], [1], [4], [2]])

    def test_2000_and_2001(self):
        self.assertEqual(
            run(begins(8, 20, 1), seen(2001), seen(2000), seen(GREATEST), fits(9, 1)),
            [[0], [-1], [1], [-1], [1, 1, 0]])

    def test_0_is_a_time(self):
        self.assertEqual(run(begins(8, 20, 1), seen(0), drop(0)), [[0], [1], [1]])

    def test_a_time_that_is_there(self):
        self.assertEqual(
            run(begins(8, 20, 1), seen(40), seen(40), seen(0), seen(40), seen(0)),
            [[0], [1], [-4], [4], [-4], [-4]])

    def test_ten_times_and_an_eleventh(self):
        self.assertEqual(run(*TEN, seen(80)), [[0]] + [[1]] * 10 + [[-5]])

    def test_no_period_any_more(self):
        self.assertEqual(run(begins(8, 8, 0), seen(0), seen(4)), [[0], [1], [-6]])
        self.assertEqual(run(begins(30, 50, 2), seen(0), seen(25)), [[0], [1], [-6]])
        self.assertEqual(run(begins(30, 50, 2), seen(0), seen(26)), [[0], [1], [1]])
        self.assertEqual(run(begins(30, 50, 2), seen(0), seen(54), seen(55)), [[0], [1], [1], [-6]])

    def test_each_two_times_are_to_agree(self):
        # By a period about 25/3, both 40 and 60 would suit 0, but not each other.
        self.assertEqual(
            run(begins(8, 9, 1), seen(0), seen(40), drop(40), seen(60), seen(40)),
            [[0], [1], [1], [1], [1], [-6]])

    def test_the_first_refusal_that_is_due(self):
        self.assertEqual(run(*TEN, seen(2001))[-1], [-1])
        self.assertEqual(run(*TEN, seen(72))[-1], [-4])
        self.assertEqual(run(*TEN, seen(0))[-1], [-4])
        self.assertEqual(run(*TEN, seen(4))[-1], [-5])
        self.assertEqual(run(*TEN[:-1], seen(4))[-1], [-6])
        self.assertEqual(run(begins(8, 8, 0), seen(0), seen(2001))[-1], [-1])

    def test_refused_leaves_all_as_it_was(self):
        start = [begins(8, 20, 1), seen(0), seen(40)]
        looks = [periods(), fits(10, 1), could(41), seen(60), drop(40), drop(60), drop(2001), drop(4)]
        plain = run(*start, *looks)[3:]
        for refused, answer in ((2001, -1), (GREATEST, -1), (0, -4), (40, -4), (4, -6)):
            with self.subTest(refused=refused):
                found = run(*start, seen(refused), *looks)
                self.assertEqual(found[3], [answer])
                self.assertEqual(found[4:], plain)

    def test_an_eleventh_leaves_all_as_it_was(self):
        self.assertEqual(
            run(*TEN, seen(80), fits(8, 1), periods(), drop(80))[-3:],
            [[1, 10] + list(range(10)), [1, 4, 8, 1, 8, 1], [-2]])

    def test_any_order(self):
        for times in itertools.permutations((0, 40, 60, 81)):
            with self.subTest(times=times):
                found = run(begins(8, 20, 1), *[seen(time) for time in times], periods(), fits(10, 1), fits(20, 1))
                self.assertEqual(
                    found[4:],
                    [[2], [2, 8, 79, 8, 31, 3, 79, 4, 20, 1], [1, 4, 0, 4, 6, 8], [1, 4, 0, 2, 3, 4]])

    def test_beats_are_counted_from_the_first_time(self):
        self.assertEqual(
            run(begins(8, 20, 1), seen(60), seen(40), fits(10, 1), seen(0), fits(10, 1))[3:],
            [[1, 2, 0, 2], [2], [1, 3, 0, 4, 6]])


class TheSameBeat(unittest.TestCase):
    def test_twice_off_apart(self):
        self.assertEqual(
            run(begins(20, 30, 4), seen(100), seen(108), periods(), fits(25, 1)),
            [[0], [1], [1], [1, 4, 20, 1, 30, 1], [1, 2, 0, 0]])

    def test_one_more_apart(self):
        self.assertEqual(run(begins(20, 30, 4), seen(100), seen(109)), [[0], [1], [-6]])

    def test_three_times(self):
        self.assertEqual(last(begins(20, 30, 4), seen(100), seen(108), seen(103), fits(25, 1)), [1, 3, 0, 0, 0])
        self.assertEqual(last(begins(20, 30, 4), seen(100), seen(108), seen(99)), [-6])

    def test_not_the_first_beat(self):
        self.assertEqual(
            run(begins(20, 30, 2), seen(0), seen(52), seen(48), periods(), fits(25, 1))[2:],
            [[1], [1], [1, 4, 24, 1, 26, 1], [1, 3, 0, 2, 2]])

    def test_with_off_0_no_two_have_the_same_beat(self):
        self.assertEqual(run(begins(20, 30, 0), seen(100), seen(101), seen(121)), [[0], [1], [-6], [1]])


class OffIs0(unittest.TestCase):
    def test_only_what_divides(self):
        self.assertEqual(
            run(begins(8, 20, 0), seen(0), seen(40), seen(60), periods(), seen(90), periods())[2:],
            [[4], [2], [2, 8, 10, 1, 10, 1, 20, 1, 20, 1], [1], [1, 4, 10, 1, 10, 1]])


class Drop(unittest.TestCase):
    def test_a_time_that_is_there(self):
        self.assertEqual(
            run(begins(8, 20, 1), seen(0), seen(40), seen(60), drop(60), periods()),
            [[0], [1], [4], [2], [4], [4, 16, 8, 1, 42, 5, 19, 2, 21, 2, 38, 3, 14, 1, 19, 1, 20, 1]])

    def test_a_time_that_is_not_there(self):
        self.assertEqual(
            run(begins(8, 20, 1), drop(0), seen(40), drop(41), drop(39), drop(0), drop(2001), drop(GREATEST),
                fits(10, 1)),
            [[0], [-2], [1], [-2], [-2], [-2], [-2], [-2], [1, 1, 0]])

    def test_dropped_is_gone(self):
        self.assertEqual(
            run(begins(8, 20, 1), seen(0), seen(40), drop(40), drop(40), seen(40)),
            [[0], [1], [4], [1], [-2], [4]])

    def test_the_first_one(self):
        self.assertEqual(
            run(begins(8, 20, 1), seen(0), seen(40), seen(60), fits(10, 1), drop(0), fits(10, 1), periods())[4:],
            [[1, 3, 0, 4, 6], [2], [1, 2, 0, 2], [2, 8, 9, 1, 11, 1, 18, 1, 20, 1]])

    def test_one_between(self):
        self.assertEqual(
            run(begins(8, 20, 1), seen(0), seen(40), seen(60), drop(40), fits(10, 1), fits(12, 1))[4:],
            [[5], [1, 2, 0, 6], [1, 2, 0, 5]])

    def test_the_only_one(self):
        self.assertEqual(
            run(begins(8, 20, 1), seen(7), drop(7), fits(10, 1), periods(), drop(7)),
            [[0], [1], [1], [1, 0], [1, 4, 8, 1, 20, 1], [-2]])

    def test_makes_room(self):
        self.assertEqual(
            run(*TEN, seen(80), drop(0), seen(80), seen(88), fits(8, 1))[11:],
            [[-5], [1], [1], [-5], [1, 10] + list(range(10))])


if __name__ == "__main__":
    unittest.main()
