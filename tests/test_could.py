"""Promise 4: could."""

import unittest

from lines import begins, could, fits, last, periods, run, seen

GREATEST = 4294967295

TEN = [begins(8, 20, 1)] + [seen(40 * n) for n in range(10)]


class Could(unittest.TestCase):
    def test_answers_as_seen_would(self):
        line = [begins(8, 20, 1), seen(40), seen(100)]
        for time in (0, 10, 39, 41, 42, 60, 99, 101, 160, 1999, 2000):
            with self.subTest(time=time):
                found = run(*line, could(time), seen(time))[3:]
                self.assertGreater(found[0][0], 0)
                self.assertEqual(found[0], found[1])

    def test_counts_the_stretches(self):
        self.assertEqual(
            run(begins(8, 20, 1), could(0), seen(0), could(40), seen(40), could(60))[1:],
            [[1], [1], [4], [4], [2]])

    def test_nothing_changes(self):
        self.assertEqual(
            run(begins(8, 20, 1), seen(0), seen(40), could(60), could(20), could(5), could(2001), could(40),
                periods(), fits(10, 1), seen(60))[3:],
            [[2], [2], [0], [-1], [4],
             [4, 16, 8, 1, 42, 5, 19, 2, 21, 2, 38, 3, 14, 1, 19, 1, 20, 1], [1, 2, 0, 4], [2]])

    def test_the_same_twice(self):
        self.assertEqual(run(begins(8, 20, 1), seen(0), could(40), could(40))[2:], [[4], [4]])

    def test_a_time_that_is_there(self):
        self.assertEqual(run(begins(8, 20, 1), seen(0), could(0), seen(40), could(0), could(40))[2:],
                         [[1], [4], [4], [4]])

    def test_no_period(self):
        self.assertEqual(run(begins(8, 20, 1), seen(0), could(5), seen(5))[2:], [[0], [-6]])
        self.assertEqual(last(begins(8, 8, 0), seen(100), could(99)), [0])
        self.assertEqual(last(begins(8, 8, 0), seen(100), could(92)), [1])

    def test_2000_and_2001(self):
        self.assertEqual(
            run(begins(8, 20, 1), could(2000), could(2001), could(GREATEST))[1:], [[1], [-1], [-1]])

    def test_ten_times_are_there(self):
        found = run(*TEN, could(400), could(405), could(380), could(40), could(2001), seen(400), fits(10, 1))[11:]
        self.assertEqual(found, [[4], [0], [2], [4], [-1], [-5], [1, 10] + [4 * n for n in range(10)]])

    def test_ahead_of_any_begins(self):
        self.assertEqual(run(could(0), periods()), [[1], [1, 4, 1, 1, 1, 1]])


if __name__ == "__main__":
    unittest.main()
