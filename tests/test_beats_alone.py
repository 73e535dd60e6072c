"""Promise 7: beats and alone."""

import unittest

from lines import alone, beats, begins, drop, fits, last, periods, run, seen

GREATEST = 4294967295

# From 8 to 42/5, from 19/2 to 21/2, from 38/3 to 14, from 19 to 20.
EXAMPLE = [begins(8, 20, 1), seen(0), seen(40)]


class Beats(unittest.TestCase):
    def test_of_each_stretch(self):
        self.assertEqual(
            run(*EXAMPLE, beats(0), beats(1), beats(2), beats(3))[3:],
            [[2, 2, 0, 5], [2, 2, 0, 4], [2, 2, 0, 3], [2, 2, 0, 2]])

    def test_the_first_and_the_last_of_many(self):
        line = [begins(8, 1000, 0), seen(0), seen(2000)]
        self.assertEqual(
            run(*line, beats(0), beats(248), beats(249))[2:], [[249], [2, 2, 0, 250], [2, 2, 0, 2], [-2]])

    def test_one_more_than_there_are(self):
        self.assertEqual(run(*EXAMPLE, beats(4), beats(5), beats(40))[3:], [[-2]] * 3)
        self.assertEqual(last(begins(8, 20, 1), seen(3), beats(1)), [-2])

    def test_4294967295(self):
        self.assertEqual(last(*EXAMPLE, beats(GREATEST)), [-2])
        self.assertEqual(last(begins(8, 20, 1), beats(GREATEST)), [-2])

    def test_no_times(self):
        self.assertEqual(run(begins(8, 20, 1), beats(0), beats(1))[1:], [[0, 0], [-2]])

    def test_one_time(self):
        self.assertEqual(last(begins(8, 20, 1), seen(1999), beats(0)), [1, 1, 0])

    def test_in_the_order_of_the_times(self):
        self.assertEqual(
            last(begins(9, 20, 2), seen(2000), seen(0), seen(1001), seen(12), seen(10), beats(0)),
            last(begins(9, 20, 2), seen(0), seen(10), seen(12), seen(1001), seen(2000), beats(0)))
        self.assertEqual(
            last(begins(10, 10, 2), seen(2000), seen(0), seen(1001), seen(12), seen(10), beats(0)),
            [5, 5, 0, 1, 1, 100, 200])

    def test_two_of_the_same_beat(self):
        self.assertEqual(last(begins(20, 30, 4), seen(100), seen(108), beats(0)), [2, 2, 0, 0])
        self.assertEqual(last(begins(20, 30, 2), seen(0), seen(52), seen(48), beats(0)), [3, 3, 0, 2, 2])

    def test_ten_times(self):
        line = [begins(8, 8, 0)] + [seen(8 * n) for n in range(10)]
        self.assertEqual(last(*line, beats(0)), [10, 10] + list(range(10)))

    def test_after_a_drop(self):
        self.assertEqual(
            run(*EXAMPLE, seen(60), beats(1), beats(2), drop(0), beats(0), beats(1), drop(40), beats(0))[3:],
            [[2], [3, 3, 0, 2, 3], [-2], [2], [2, 2, 0, 2], [2, 2, 0, 1], [1], [1, 1, 0]])

    def test_as_fits_tells(self):
        found = run(*EXAMPLE, beats(0), beats(1), beats(2), beats(3), fits(8, 1), fits(10, 1), fits(13, 1), fits(20, 1))
        for told, fitting in zip(found[3:7], found[7:]):
            self.assertEqual(told[1:], fitting[1:])

    def test_nothing_changes(self):
        self.assertEqual(
            run(*EXAMPLE, beats(1), beats(4), beats(1), periods())[3:],
            [[2, 2, 0, 4], [-2], [2, 2, 0, 4], [4, 16, 8, 1, 42, 5, 19, 2, 21, 2, 38, 3, 14, 1, 19, 1, 20, 1]])

    def test_ahead_of_any_begins(self):
        self.assertEqual(run(beats(0)), [[0, 0]])
        self.assertEqual(run(beats(1)), [[-2]])
        self.assertEqual(run(beats(GREATEST)), [[-2]])


class Alone(unittest.TestCase):
    def test_no_times(self):
        self.assertEqual(run(begins(8, 1000, 0), alone()), [[0], [1]])

    def test_one_time(self):
        self.assertEqual(last(begins(8, 20, 1), seen(5), alone()), [1])

    def test_just_one_stretch(self):
        self.assertEqual(last(begins(30, 50, 2), seen(0), seen(40), alone()), [1])
        self.assertEqual(last(begins(8, 8, 0), seen(0), seen(8), alone()), [1])

    def test_several(self):
        self.assertEqual(last(*EXAMPLE, alone()), [0])
        self.assertEqual(last(*EXAMPLE, seen(60), alone()), [0])
        self.assertEqual(run(begins(9, 12, 2), seen(0), seen(56), alone())[2:], [[2], [0]])

    def test_after_a_seen_that_leaves_one(self):
        self.assertEqual(run(*EXAMPLE, alone(), seen(30), alone(), seen(50), alone())[3:], [[0], [2], [0], [1], [1]])

    def test_after_a_drop_that_leaves_several(self):
        self.assertEqual(
            run(*EXAMPLE, seen(30), seen(50), alone(), drop(50), alone(), drop(30), alone())[5:],
            [[1], [2], [0], [4], [0]])

    def test_after_a_drop_that_leaves_one(self):
        self.assertEqual(run(*EXAMPLE, alone(), drop(40), alone(), drop(0), alone())[3:], [[0], [1], [1], [1], [1]])

    def test_refusals_do_not_matter(self):
        self.assertEqual(run(*EXAMPLE, seen(5), alone(), drop(5), begins(7, 8, 0), alone())[3:],
                         [[-6], [0], [-2], [-1], [0]])

    def test_after_a_begins(self):
        self.assertEqual(last(*EXAMPLE, begins(8, 20, 1), alone()), [1])

    def test_nothing_changes(self):
        self.assertEqual(run(*EXAMPLE, alone(), alone(), beats(3))[3:], [[0], [0], [2, 2, 0, 2]])

    def test_ahead_of_any_begins(self):
        self.assertEqual(run(alone()), [[1]])


if __name__ == "__main__":
    unittest.main()
