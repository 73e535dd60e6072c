"""Many small lists of calls: the program beside the slow and plain reckoning."""

import itertools
import random
import unittest
from fractions import Fraction

from lines import alone, beats, begins, could, drop, fits, next_one, periods, run, seen, times_seen, window
from slow_beat import SlowBeat, beats_by, can_be_beat_0, points_and_middles, told_fractions

# lo, hi, off; the last ones are refused.
BOUNDS = (
    (8, 20, 1), (8, 30, 0), (8, 8, 0), (9, 40, 2), (13, 16, 3), (17, 17, 4), (20, 90, 4), (8, 1000, 0),
    (8, 20, 2), (7, 20, 0), (21, 20, 1), (8, 1001, 1))

# Fractions a little beside a stretch's end are at most that far from it.
NEAR = Fraction(1, 1000000)


def slow_run(calls):
    """What each call answers by the slow reckoning."""
    beat = SlowBeat()
    return [beat.answer(call) for call in calls]


def some_time(dice, off):
    """A time, mostly one of some even beat."""
    if dice.random() < 0.1:
        return dice.choice((0, 100, 2000, 2001, 4294967295))
    if dice.random() < 0.2:
        return dice.randrange(120)
    return dice.randrange(8) * 12 + 5 + dice.randint(-off, off)


def some_fraction(dice, bounds):
    """A fraction to ask for, sometimes one that is refused."""
    below = dice.choice((0, 1, 1, 2, 3, 10, 1000, 1001))
    above = dice.choice((
        0, bounds[0] * below, bounds[1] * below, 1000 * below, 1000 * below + 1,
        dice.randrange(20 * below + 1), dice.randrange(11 * below, 13 * below + 1)))
    return above, below


def some_call(dice, bounds, calls):
    """One call, any of them, but seldom a new begins."""
    sort = dice.choices(range(11), (1, 12, 4, 3, 4, 3, 7, 3, 8, 2, 3))[0]
    if sort == 0:
        return begins(*dice.choice(BOUNDS))
    if sort in (3, 9, 10):
        return {3: periods, 9: alone, 10: times_seen}[sort]()
    if sort in (4, 6):
        return {4: fits, 6: window}[sort](*some_fraction(dice, bounds))
    if sort == 7:
        return beats(dice.choice((0, 0, 1, 2, 3, 4294967295)))
    if sort == 8:
        return next_one(*some_fraction(dice, bounds), some_time(dice, bounds[2]))
    asked = [call[1] for call in calls if call[0] == 1]
    if sort == 2 and asked and dice.random() < 0.8:
        return drop(dice.choice(asked))
    return {1: seen, 2: drop, 5: could}[sort](some_time(dice, bounds[2]))


def some_calls(dice):
    """A list of calls, up to 30, mostly with a begins ahead."""
    bounds = dice.choice(BOUNDS[:6])
    calls = [begins(*bounds)] if dice.random() < 0.9 else []
    for _ in range(dice.randint(1, 29)):
        calls.append(some_call(dice, bounds, calls))
    return calls


def some_even_times(dice, period, off, count):
    """Times of one even beat, each seen early or late by at most off."""
    beats = dice.sample(range(10), count)
    return [3 + off + beat * period + dice.randint(-off, off) for beat in beats]


class Comparison(unittest.TestCase):
    def compare(self, calls):
        self.assertEqual(run(*calls), slow_run(calls), f"calls: {calls}")

    def test_each_two_times(self):
        for bounds in ((8, 20, 1), (9, 13, 2), (8, 11, 0), (17, 40, 4)):
            for later in range(1, 70):
                self.compare([begins(*bounds), could(5), seen(5), could(5 + later), seen(5 + later), periods()])

    def test_each_three_times(self):
        for bounds in ((8, 12, 1), (9, 11, 2)):
            for one, other in itertools.combinations(range(1, 36), 2):
                self.compare([begins(*bounds), seen(0), seen(other), could(one), seen(one), periods()])

    def test_lists_of_calls(self):
        dice = random.Random(1)
        for _ in range(700):
            self.compare(some_calls(dice))

    def test_even_times(self):
        dice = random.Random(2)
        for _ in range(150):
            bounds = dice.choice(((8, 20, 1), (9, 20, 2), (13, 30, 3), (10, 16, 0)))
            times = some_even_times(dice, dice.randint(bounds[0], bounds[1]), bounds[2], dice.randint(2, 6))
            self.compare([begins(*bounds)] + [seen(time) for time in times]
                         + [periods(), could(dice.randrange(150)), drop(min(times)), periods(), fits(12, 1)])

    def test_up_to_ten_times(self):
        dice = random.Random(3)
        for _ in range(12):
            times = [7 + 10 * beat + dice.randint(-1, 1) for beat in range(11)]
            dice.shuffle(times)
            self.compare([begins(8, 11, 1)] + [seen(time) for time in times[:10]]
                         + [could(times[10]), seen(times[10]), fits(10, 1), periods(), drop(times[3]), periods()])


class WindowsInComparison(unittest.TestCase):
    def compare(self, calls):
        self.assertEqual(run(*calls), slow_run(calls), f"calls: {calls}")

    def test_at_the_ends_of_stretches_and_between(self):
        dice = random.Random(7)
        for _ in range(60):
            lo, hi, off = dice.choice(((8, 20, 1), (9, 20, 2), (13, 30, 3), (10, 16, 0)))
            times = some_even_times(dice, dice.randint(lo, hi), off, dice.randint(1, 4))
            line = [begins(lo, hi, off)] + [seen(time) for time in times]
            numbers = run(*line, periods())[-1][2:]
            ends = [Fraction(above, below) for above, below in zip(numbers[0::2], numbers[1::2])]
            asked = [point for point in points_and_middles(ends) if point.denominator <= 1000]
            for point in dice.sample(asked, min(8, len(asked))):
                fraction = (point.numerator, point.denominator)
                near = max(0, dice.choice(times) + dice.randint(-3, 3))
                self.compare(line + [window(*fraction)] + [
                    next_one(*fraction, time) for time in (0, near, near + 1, dice.randrange(2001), 2000)])

    def test_each_time_of_next(self):
        for bounds, times, fraction in (
                ((8, 20, 1), (40, 80), (27, 2)), ((20, 30, 4), (60, 77), (23, 1)), ((9, 20, 2), (100,), (1001, 100)),
                ((8, 20, 0), (33, 73), (40, 3))):
            line = [begins(*bounds)] + [seen(time) for time in times]
            for time in range(0, 140, 10):
                self.compare(line + [next_one(*fraction, time + step) for step in range(10)])

    def test_each_stretch(self):
        dice = random.Random(8)
        for _ in range(40):
            bounds = dice.choice(((8, 20, 1), (9, 20, 2), (13, 30, 3), (10, 16, 0)))
            times = some_even_times(dice, dice.randint(bounds[0], bounds[1]), bounds[2], dice.randint(2, 5))
            self.compare([begins(*bounds)] + [seen(time) for time in times] + [alone(), times_seen()]
                         + [beats(stretch) for stretch in range(8)] + [drop(max(times)), alone(), beats(0)])


class EachBeat0ByItself(unittest.TestCase):
    """The windows that are answered: numbers tried at their ends, within them and beside them."""

    def check(self, bounds, times, period):
        answer = run(begins(*bounds), *[seen(time) for time in times], window(period.numerator, period.denominator))[-1]
        least, greatest = Fraction(answer[2], answer[3]), Fraction(answer[5], answer[6])
        self.assertEqual(answer, told_fractions(least, greatest))
        self.assertLessEqual(least, greatest)
        for part in range(8):
            inside = least + (greatest - least) * Fraction(part, 7)
            self.assertTrue(can_be_beat_0(inside, period, bounds[2], sorted(times)), (bounds, times, period, inside))
        for beside in (least - NEAR, least - 1, least - period, greatest + NEAR, greatest + 1, greatest + period):
            self.assertFalse(can_be_beat_0(beside, period, bounds[2], sorted(times)), (bounds, times, period, beside))

    def test_many(self):
        dice = random.Random(9)
        for _ in range(300):
            off = dice.randint(0, 30)
            lo = 4 * off + dice.randint(8, 40)
            below = dice.choice((1, 1, 2, 7, 60, 999))
            period = Fraction(dice.randint(lo * below, (lo + 20) * below), below)
            # Each even beat is rounded, so that off may be one less than the times want.
            beats_taken = dice.sample(range(11), dice.randint(1, 6))
            early = max(0, off - 1)
            times = [off + int(beat * period) + dice.randint(-early, early) for beat in beats_taken]
            if off > 0 or period.denominator == 1:
                self.check((lo, lo + 20, off), times, period)


class EachFractionByItself(unittest.TestCase):
    """The stretches that are answered: tried at their ends, between them and beside them."""

    def check(self, bounds, times):
        calls = [begins(*bounds)] + [seen(time) for time in times] + [periods()]
        found = run(*calls)
        times = sorted(time for time, answer in zip(times, found[1:]) if answer[0] > 0)
        numbers = found[-1][2:]
        ends = [Fraction(above, below) for above, below in zip(numbers[0::2], numbers[1::2])]
        lo, hi, off = bounds
        self.assertEqual(ends, sorted(ends))
        for shortest, longest in zip(ends[0::2], ends[1::2]):
            beats = beats_by(shortest, off, times)
            self.assertIsNotNone(beats)
            for inside in points_and_middles(points_and_middles([shortest, longest])):
                self.assertEqual(beats_by(inside, off, times), beats, (bounds, times, inside))
            for beside in (shortest - NEAR, longest + NEAR):
                if lo <= beside <= hi:
                    self.assertIsNone(beats_by(beside, off, times), (bounds, times, beside))
        walls = [Fraction(lo)] + ends + [Fraction(hi)]
        for before, after in zip(walls[0::2], walls[1::2]):
            if before < after:
                for part in range(1, 8):
                    between = before + (after - before) * Fraction(part, 8)
                    self.assertIsNone(beats_by(between, off, times), (bounds, times, between))

    def test_small_lists(self):
        dice = random.Random(4)
        for _ in range(200):
            bounds = dice.choice(((8, 20, 1), (9, 20, 2), (13, 30, 3), (10, 16, 0), (41, 60, 10)))
            period = dice.randint(bounds[0], bounds[1])
            self.check(bounds, some_even_times(dice, period, bounds[2], dice.randint(2, 5)))

    def test_greater_numbers(self):
        dice = random.Random(5)
        for bounds in ((150, 400, 3), (300, 1000, 70), (100, 1000, 0), (90, 300, 1)):
            for _ in range(4):
                self.check(bounds, dice.sample(range(2001), 3))

    def test_fits_agrees(self):
        dice = random.Random(6)
        for _ in range(40):
            lo, hi, off = dice.choice(((8, 20, 1), (9, 20, 2), (10, 16, 0)))
            times = some_even_times(dice, dice.randint(lo, hi), off, dice.randint(2, 4))
            line = [begins(lo, hi, off)] + [seen(time) for time in times]
            numbers = run(*line, periods())[-1][2:]
            asked = [(above, below) for above, below in zip(numbers[0::2], numbers[1::2])]
            asked += [(2 * above + step, 2 * below) for above, below in asked for step in (-1, 1)]
            self.compare_fits(line, asked[:24])

    def compare_fits(self, line, asked):
        calls = line + [fits(above, below) for above, below in asked]
        self.assertEqual(run(*calls), slow_run(calls), f"calls: {calls}")


if __name__ == "__main__":
    unittest.main()
