"""A slow and plain reckoning of what the calls answer, straight from the document's words.

It knows nothing of stretches that are narrowed time by time: it only tries single
fractions, each by itself, and looks for a beat 0 that suits all the times. For window
it tries number after number as the beat 0, for next one beat behind another.
"""

from fractions import Fraction


def beat_of(time, beat_0, period, off):
    """The whole number n for which the time is at most off from beat_0 and n periods; None if there's none."""
    n = (time - beat_0) // period
    for candidate in (n, n + 1):
        if abs(time - (beat_0 + candidate * period)) <= off:
            return candidate
    return None


def beats_by(period, off, times):
    """The beats of the times if the period, tried by itself, suits them; else None."""
    if not times:
        return []
    # Told in parts that are small enough, the period too is a whole number.
    parts = period.denominator
    return whole_beats_by(period.numerator, off * parts, [time * parts for time in times])


def whole_beats_by(period, off, times):
    # If any beat 0 will do, so does the least one, and by that one some time is late by all of off.
    for time in times:
        n = (time - times[0]) // period
        beat_0 = time - off - n * period
        beats = [beat_of(other, beat_0, period, off) for other in times]
        if None not in beats and beats[0] == 0:
            return beats
    return None


def turning_points(lo, hi, off, times):
    """All fractions at which a stretch may begin or end, in rising order."""
    points = {Fraction(lo), Fraction(hi)}
    for one in times:
        for other in times:
            for apart in (one - other - 2 * off, one - other + 2 * off):
                for n in range(1, max(0, apart) // lo + 1):
                    if lo <= Fraction(apart, n) <= hi:
                        points.add(Fraction(apart, n))
    return sorted(points)


def points_and_middles(points):
    """The points with the middle between each two neighbours."""
    found = []
    for place, point in enumerate(points):
        if place > 0:
            found.append((points[place - 1] + point) / 2)
        found.append(point)
    return found


def stretches(lo, hi, off, times):
    """All stretches: lists of where from, where to, the beats."""
    found = []
    beats_before = None
    for point in points_and_middles(turning_points(lo, hi, off, times)):
        beats = beats_by(point, off, times)
        if beats is not None and beats == beats_before:
            found[-1][1] = point
        elif beats is not None:
            found.append([point, point, beats])
        beats_before = beats
    return found


def can_be_beat_0(number, period, off, times):
    """Whether the number, tried by itself, can be the beat 0 by the period."""
    beats = [beat_of(time, number, period, off) for time in times]
    return None not in beats and beats[0] == 0


def window_by(period, off, times):
    """The least and the greatest of all numbers that can be the beat 0; None if there are none."""
    # Times and off are whole: told in parts of the period's fraction, so are the least and the greatest.
    parts = period.denominator
    in_parts = [time * parts for time in times]
    first = times[0]
    found = [
        number for number in range((first - off) * parts, (first + off) * parts + 1)
        if can_be_beat_0(number, period.numerator, off * parts, in_parts)]
    if not found:
        return None
    return Fraction(min(found), parts), Fraction(max(found), parts)


def first_not_below(greatest, period, time):
    """The least n for which the greatest and n periods aren't below the time, found one n behind another."""
    n = 0
    while greatest + n * period >= time:
        n -= 1
    while greatest + n * period < time:
        n += 1
    return n


def fraction_refused(above, below):
    return below not in range(1, 1001) or above not in range(1, 1000 * below + 1)


def told_fractions(*fractions):
    """0, then the fractions, each a list of two numbers."""
    found = [0]
    for fraction in fractions:
        found += [2, fraction.numerator, fraction.denominator]
    return found


class SlowBeat:
    """Answers calls one by one, each as the list of its numbers."""

    def __init__(self):
        self.bounds = (1, 1, 0)
        self.times = []

    def count(self, times):
        return len(stretches(*self.bounds, sorted(times)))

    def answer(self, call):
        names = ("begins", "seen", "drop", "periods", "fits", "could",
                 "window", "beats", "next_one", "alone", "times_seen")
        return getattr(self, names[call[0]])(*call[1:])

    def begins(self, lo, hi, off):
        if not (8 <= lo <= hi <= 1000 and lo > 4 * off):
            return [-1]
        self.bounds = (lo, hi, off)
        self.times = []
        return [0]

    def seen(self, time):
        if time > 2000:
            return [-1]
        if time in self.times:
            return [-4]
        if len(self.times) == 10:
            return [-5]
        count = self.count(self.times + [time])
        if count == 0:
            return [-6]
        self.times = sorted(self.times + [time])
        return [count]

    def drop(self, time):
        if time not in self.times:
            return [-2]
        self.times.remove(time)
        return [self.count(self.times)]

    def periods(self):
        numbers = []
        for shortest, longest, _ in stretches(*self.bounds, self.times):
            numbers += [shortest.numerator, shortest.denominator, longest.numerator, longest.denominator]
        return [len(numbers) // 4, len(numbers)] + numbers

    def fits(self, above, below):
        if fraction_refused(above, below):
            return [-1]
        lo, hi, off = self.bounds
        period = Fraction(above, below)
        beats = None
        if lo <= period <= hi:
            beats = beats_by(period, off, self.times)
        if beats is None:
            return [0]
        return [1, len(beats)] + beats

    def could(self, time):
        if time > 2000:
            return [-1]
        return [self.count(set(self.times + [time]))]

    def ends_of_beat_0(self, above, below):
        """The least and the greatest beat 0 as a pair, or the refusal as a list."""
        if fraction_refused(above, below):
            return [-1]
        if not self.times:
            return [-2]
        lo, hi, off = self.bounds
        period = Fraction(above, below)
        ends = None
        if lo <= period <= hi:
            ends = window_by(period, off, self.times)
        return [-6] if ends is None else ends

    def window(self, above, below):
        ends = self.ends_of_beat_0(above, below)
        return ends if isinstance(ends, list) else told_fractions(*ends)

    def next_one(self, above, below, time):
        if time > 2000:
            return [-1]
        ends = self.ends_of_beat_0(above, below)
        if isinstance(ends, list):
            return ends
        period = Fraction(above, below)
        n = first_not_below(ends[1], period, time)
        return told_fractions(ends[0] + n * period, ends[1] + n * period)

    def beats(self, stretch):
        found = stretches(*self.bounds, self.times)
        if stretch not in range(len(found)):
            return [-2]
        row = found[stretch][2]
        return [len(row), len(row)] + row

    def alone(self):
        return [int(self.count(self.times) == 1)]

    def times_seen(self):
        return [len(self.times), len(self.times)] + self.times
