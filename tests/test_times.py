"""The call times: the times that there are, in rising order."""

import itertools
import unittest

from lines import begins, could, drop, last, run, seen, times_seen

GREATEST = 4294967295


class Times(unittest.TestCase):
    def test_none(self):
        self.assertEqual(run(begins(8, 20, 1), times_seen()), [[0], [0, 0]])

    def test_one(self):
        self.assertEqual(last(begins(8, 20, 1), seen(40), times_seen()), [1, 1, 40])
        self.assertEqual(last(begins(8, 20, 1), seen(0), times_seen()), [1, 1, 0])
        self.assertEqual(last(begins(8, 20, 1), seen(2000), times_seen()), [1, 1, 2000])

    def test_ten(self):
        line = [begins(8, 8, 0)] + [seen(8 * n) for n in (3, 7, 0, 9, 1, 5, 4, 8, 2, 6)]
        told = [10, 10, 0, 8, 16, 24, 32, 40, 48, 56, 64, 72]
        self.assertEqual(last(*line, times_seen()), told)
        self.assertEqual(run(*line, seen(80), times_seen())[-2:], [[-5], told])

    def test_any_order(self):
        for order in itertools.permutations((0, 8, 40, 2000)):
            with self.subTest(order=order):
                self.assertEqual(
                    last(begins(8, 8, 0), *[seen(time) for time in order], times_seen()), [4, 4, 0, 8, 40, 2000])

    def test_each_seen_adds_one(self):
        self.assertEqual(
            run(begins(8, 20, 1), seen(60), times_seen(), seen(0), times_seen(), seen(40), times_seen())[2::2],
            [[1, 1, 60], [2, 2, 0, 60], [3, 3, 0, 40, 60]])

    def test_after_a_drop(self):
        line = [begins(8, 20, 1), seen(60), seen(0), seen(40)]
        self.assertEqual(last(*line, drop(0), times_seen()), [2, 2, 40, 60])
        self.assertEqual(last(*line, drop(40), times_seen()), [2, 2, 0, 60])
        self.assertEqual(last(*line, drop(60), times_seen()), [2, 2, 0, 40])
        self.assertEqual(last(*line, drop(60), drop(0), drop(40), times_seen()), [0, 0])
        self.assertEqual(last(*line, drop(0), seen(0), times_seen()), [3, 3, 0, 40, 60])

    def test_after_a_refused_drop(self):
        self.assertEqual(last(begins(8, 20, 1), seen(0), seen(40), drop(41), times_seen()), [2, 2, 0, 40])

    def test_after_a_refused_seen(self):
        for refused, answer in ((2001, -1), (GREATEST, -1), (0, -4), (40, -4), (5, -6)):
            with self.subTest(refused=refused):
                self.assertEqual(
                    run(begins(8, 20, 1), seen(0), seen(40), seen(refused), times_seen())[3:],
                    [[answer], [2, 2, 0, 40]])

    def test_after_a_could(self):
        self.assertEqual(
            run(begins(8, 20, 1), seen(0), could(40), times_seen(), could(5), times_seen())[2:],
            [[4], [1, 1, 0], [0], [1, 1, 0]])

    def test_after_a_refused_begins(self):
        for refused in (begins(7, 9, 0), begins(8, 1001, 0), begins(11, 10, 0), begins(12, 15, 3)):
            with self.subTest(refused=refused):
                self.assertEqual(
                    run(begins(8, 20, 1), seen(0), seen(40), refused, times_seen())[3:], [[-1], [2, 2, 0, 40]])

    def test_after_a_begins(self):
        self.assertEqual(
            run(begins(8, 20, 1), seen(0), seen(40), begins(8, 20, 1), times_seen(), seen(9), times_seen())[3:],
            [[0], [0, 0], [1], [1, 1, 9]])

    def test_nothing_changes(self):
        self.assertEqual(
            run(begins(8, 20, 1), seen(40), times_seen(), times_seen(), seen(0), drop(40))[2:],
            [[1, 1, 40], [1, 1, 40], [4], [1]])

    def test_ahead_of_any_begins(self):
        self.assertEqual(run(times_seen()), [[0, 0]])
        self.assertEqual(run(seen(4), seen(3), times_seen()), [[1], [1], [2, 2, 3, 4]])


if __name__ == "__main__":
    unittest.main()
