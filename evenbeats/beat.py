"""One beat, of which some times were seen, and the calls on it."""

from evenbeats.fraction import lowest_terms
from evenbeats.stretch import find_stretches
from evenbeats.window import window_not_ahead, window_of_beat_0

SHORTEST_LO = 8
LONGEST_HI = 1000
LATEST_TIME = 2000
MOST_TIMES = 10
GREATEST_BELOW = 1000

# How many whole numbers stand behind each call's own number.
HANDED_NUMBERS = (3, 1, 1, 0, 2, 1, 2, 1, 3, 0, 0)


def is_askable(above, below):
    """Whether one may ask for that fraction as a period."""
    return 1 <= below <= GREATEST_BELOW and 1 <= above <= LONGEST_HI * below


def told_list(numbers):
    """A list as it is answered, behind how many numbers it has."""
    return [len(numbers)] + numbers


def told_window(window):
    """0, then the window's two ends, a list each."""
    told = [0]
    for end in window:
        told.extend(told_list(list(lowest_terms(end))))
    return told


class EvenBeat:
    def __init__(self):
        """What is known of one beat: its bounds, its times in rising order, its stretches."""
        self.lo = 1
        self.hi = 1
        self.off = 0
        self.keep_times([])

    def stretches_with(self, times):
        """The stretches that there would be with these times."""
        return find_stretches(self.lo, self.hi, self.off, times)

    def keep_times(self, times):
        """Have these times from now on."""
        self.seen_times = times
        self.stretches = self.stretches_with(times)

    def stretch_of(self, period):
        """The stretch that the fraction is a period of; None if it's no period."""
        for stretch in self.stretches:
            if stretch.holds(period):
                return stretch
        return None

    def window_refusal(self, above, below):
        """The refusal that's due where a beat 0 by that period is asked for; 0 if none is."""
        if not is_askable(above, below):
            return -1
        if len(self.seen_times) == 0:
            return -2
        if self.stretch_of((above, below)) is None:
            return -6
        return 0

    def window_by(self, period):
        """The window of the beat 0 by a period, where there are times."""
        return window_of_beat_0(self.seen_times, self.stretch_of(period).row, self.off, period)

    def begins(self, lo, hi, off):
        """New bounds and no times: 0, or a refusal."""
        if lo < SHORTEST_LO or lo > hi or hi > LONGEST_HI or lo <= 4 * off:
            return -1
        self.lo = lo
        self.hi = hi
        self.off = off
        self.keep_times([])
        return 0

    def seen(self, time):
        """One time more: how many stretches there are then, or a refusal."""
        if time > LATEST_TIME:
            return -1
        if time in self.seen_times:
            return -4
        if len(self.seen_times) >= MOST_TIMES:
            return -5
        times = sorted(self.seen_times + [time])
        if len(self.stretches_with(times)) == 0:
            return -6
        self.keep_times(times)
        return len(self.stretches)

    def drop(self, time):
        """One time less: how many stretches there are then, or a refusal."""
        if time not in self.seen_times:
            return -2
        self.keep_times([other for other in self.seen_times if other != time])
        return len(self.stretches)

    def periods(self):
        """How many stretches, then a list of four numbers for each."""
        bounds = []
        for stretch in self.stretches:
            bounds.extend(lowest_terms(stretch.shortest))
            bounds.extend(lowest_terms(stretch.longest))
        return [len(self.stretches)] + told_list(bounds)

    def fits(self, above, below):
        """0 if the fraction is no period; or 1, then the list of the beats; or a refusal."""
        if not is_askable(above, below):
            return [-1]
        stretch = self.stretch_of((above, below))
        if stretch is None:
            return [0]
        return [1] + told_list(stretch.row)

    def could(self, time):
        """How many stretches there would be with that time too, or a refusal."""
        if time > LATEST_TIME:
            return -1
        if time in self.seen_times:
            return len(self.stretches)
        # Ten times that are there already don't matter: nothing is kept.
        return len(self.stretches_with(sorted(self.seen_times + [time])))

    def window(self, above, below):
        """0, then the least beat 0 and the greatest, a list each; or a refusal."""
        refusal = self.window_refusal(above, below)
        if refusal < 0:
            return [refusal]
        return told_window(self.window_by((above, below)))

    def beats(self, stretch):
        """How many beats the stretch has, then the list of them; or a refusal."""
        if stretch >= len(self.stretches):
            return [-2]
        row = self.stretches[stretch].row
        return [len(row)] + told_list(row)

    def next_one(self, above, below, time):
        """0, then from when to when the next beat can be, a list each; or a refusal."""
        if time > LATEST_TIME:
            return [-1]
        refusal = self.window_refusal(above, below)
        if refusal < 0:
            return [refusal]
        period = (above, below)
        return told_window(window_not_ahead(self.window_by(period), period, time))

    def alone(self):
        """1 if there's just one stretch, else 0."""
        if len(self.stretches) == 1:
            return 1
        return 0

    def times(self):
        """How many times there are, then the list of them."""
        return [len(self.seen_times)] + told_list(self.seen_times)


def answer_call(beat, call, numbers):
    """What one call answers, as one list."""
    if call == 0:
        return [beat.begins(numbers[0], numbers[1], numbers[2])]
    if call == 1:
        return [beat.seen(numbers[0])]
    if call == 2:
        return [beat.drop(numbers[0])]
    if call == 3:
        return beat.periods()
    if call == 4:
        return beat.fits(numbers[0], numbers[1])
    if call == 5:
        return [beat.could(numbers[0])]
    if call == 6:
        return beat.window(numbers[0], numbers[1])
    if call == 7:
        return beat.beats(numbers[0])
    if call == 8:
        return beat.next_one(numbers[0], numbers[1], numbers[2])
    if call == 9:
        return [beat.alone()]
    return beat.times()


def answers(calls):
    """What the calls on a new beat answer, each behind how many numbers it answers."""
    beat = EvenBeat()
    told = []
    place = 0
    while place < len(calls):
        call = calls[place]
        numbers_end = place + 1 + HANDED_NUMBERS[call]
        answer = answer_call(beat, call, calls[place + 1:numbers_end])
        told.append(len(answer))
        told.extend(answer)
        place = numbers_end
    return told
