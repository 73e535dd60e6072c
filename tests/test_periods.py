"""The stretches, as periods tells them."""

import unittest
from fractions import Fraction

from lines import begins, last, periods, seen


def pairs(answer):
    """The stretches of an answer, as pairs of fractions; its form is looked at, too."""
    count, length = answer[:2]
    numbers = answer[2:]
    if length != len(numbers) or length != 4 * count:
        raise AssertionError(f"not four numbers a stretch: {answer}")
    for above, below in zip(numbers[0::2], numbers[1::2]):
        fraction = Fraction(above, below)
        if (above, below) != (fraction.numerator, fraction.denominator):
            raise AssertionError(f"not in lowest terms: {above} by {below}")
    ends = [Fraction(above, below) for above, below in zip(numbers[0::2], numbers[1::2])]
    return list(zip(ends[0::2], ends[1::2]))


class Periods(unittest.TestCase):
    def test_no_times(self):
        self.assertEqual(last(begins(8, 1000, 1), periods()), [1, 4, 8, 1, 1000, 1])

    def test_one_time(self):
        self.assertEqual(last(begins(9, 900, 2), seen(5), periods()), [1, 4, 9, 1, 900, 1])

    def test_one_stretch(self):
        self.assertEqual(last(begins(30, 50, 2), seen(0), seen(40), periods()), [1, 4, 36, 1, 44, 1])

    def test_the_example(self):
        self.assertEqual(
            last(begins(8, 20, 1), seen(0), seen(40), periods()),
            [4, 16, 8, 1, 42, 5, 19, 2, 21, 2, 38, 3, 14, 1, 19, 1, 20, 1])

    def test_stretches_of_a_single_number(self):
        self.assertEqual(
            last(begins(8, 20, 1), seen(0), seen(22), periods()),
            [3, 12, 8, 1, 8, 1, 10, 1, 12, 1, 20, 1, 20, 1])

    def test_a_single_number_within_the_bounds(self):
        # 0 and 21 want 19 or more, 21 and 38 want 19 or less.
        self.assertEqual(last(begins(15, 25, 1), seen(0), seen(21), seen(38), periods()), [1, 4, 19, 1, 19, 1])
        self.assertEqual(last(begins(15, 25, 1), seen(0), seen(21), seen(37)), [-6])

    def test_lo_is_hi(self):
        self.assertEqual(last(begins(30, 30, 2), seen(3), seen(61), periods()), [1, 4, 30, 1, 30, 1])

    def test_lowest_terms(self):
        self.assertEqual(
            last(begins(9, 12, 2), seen(0), seen(56), periods()), [2, 8, 9, 1, 10, 1, 52, 5, 12, 1])

    def test_many(self):
        found = pairs(last(begins(8, 1000, 0), seen(0), seen(2000), periods()))
        self.assertEqual(found, [(Fraction(2000, n), Fraction(2000, n)) for n in range(250, 1, -1)])

    def test_many_with_off_1(self):
        found = pairs(last(begins(8, 1000, 1), seen(0), seen(2000), periods()))
        ends = [(Fraction(1998, n), Fraction(2002, n)) for n in range(250, 1, -1)]
        ends[0] = (Fraction(8), ends[0][1])
        ends[-1] = (ends[-1][0], Fraction(1000))
        self.assertEqual(found, ends)

    def test_rising_and_never_touching(self):
        found = pairs(last(begins(9, 1000, 2), seen(3), seen(1999), seen(700), seen(16), periods()))
        self.assertGreater(len(found), 5)
        for shortest, longest in found:
            self.assertLessEqual(shortest, longest)
        for before, after in zip(found, found[1:]):
            self.assertLess(before[1], after[0])


if __name__ == "__main__":
    unittest.main()
