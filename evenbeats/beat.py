"""One beat, of which some times were seen, and the calls on it."""

from evenbeats.fraction import lowest_terms
from evenbeats.stretch import find_stretches

SHORTEST_LO = 8
LONGEST_HI = 1000
LATEST_TIME = 2000
MOST_TIMES = 10
GREATEST_BELOW = 1000

# How many whole numbers stand behind each call's own number.
HANDED_NUMBERS = (3, 1, 1, 0, 2, 1)


def is_askable(above, below):
    """Whether one may ask for that fraction as a period."""
    return 1 <= below <= GREATEST_BELOW and 1 <= above <= LONGEST_HI * below


class EvenBeat:
    def __init__(self):
        """What is known of one beat: its bounds, its times in rising order, its stretches."""
        self.lo = 1
        self.hi = 1
        self.off = 0
        self.keep_times([])

    def stretches_with(self, times):
        """The stretches that there would be with these times."""
        return find_stretches(self.lo, self.hi, self.off, times)

    def keep_times(self, times):
        """Have these times from now on."""
        self.seen_times = times
        self.stretches = self.stretches_with(times)

    def begins(self, lo, hi, off):
        """New bounds and no times: 0, or a refusal."""
        if lo < SHORTEST_LO or lo > hi or hi > LONGEST_HI or lo <= 4 * off:
            return -1
        self.lo = lo
        self.hi = hi
        self.off = off
        self.keep_times([])
        return 0

    def seen(self, time):
        """One time more: how many stretches there are then, or a refusal."""
        if time > LATEST_TIME:
            return -1
        if time in self.seen_times:
            return -4
        if len(self.seen_times) >= MOST_TIMES:
            return -5
        times = sorted(self.seen_times + [time])
        if len(self.stretches_with(times)) == 0:
            return -6
        self.keep_times(times)
        return len(self.stretches)

    def drop(self, time):
        """One time less: how many stretches there are then, or a refusal."""
        if time not in self.seen_times:
            return -2
        self.keep_times([other for other in self.seen_times if other != time])
        return len(self.stretches)

    def periods(self):
        """How many stretches, then a list of four numbers for each."""
        bounds = []
        for stretch in self.stretches:
            bounds.extend(lowest_terms(stretch.shortest))
            bounds.extend(lowest_terms(stretch.longest))
        return [len(self.stretches), len(bounds)] + bounds

    def fits(self, above, below):
        """0 if the fraction is no period; or 1, then the list of the beats; or a refusal."""
        if not is_askable(above, below):
            return [-1]
        for stretch in self.stretches:
            if stretch.holds((above, below)):
                return [1, len(stretch.row)] + stretch.row
        return [0]

    def could(self, time):
        """How many stretches there would be with that time too, or a refusal."""
        if time > LATEST_TIME:
            return -1
        if time in self.seen_times:
            return len(self.stretches)
        # Ten times that are there already don't matter: nothing is kept.
        return len(self.stretches_with(sorted(self.seen_times + [time])))


def answer_call(beat, call, numbers):
    """What one call answers, as one list."""
    if call == 0:
        return [beat.begins(numbers[0], numbers[1], numbers[2])]
    if call == 1:
        return [beat.seen(numbers[0])]
    if call == 2:
        return [beat.drop(numbers[0])]
    if call == 3:
        return beat.periods()
    if call == 4:
        return beat.fits(numbers[0], numbers[1])
    return [beat.could(numbers[0])]


def answers(calls):
    """What the calls on a new beat answer, each behind how many numbers it answers."""
    beat = EvenBeat()
    told = []
    place = 0
    while place < len(calls):
        call = calls[place]
        numbers_end = place + 1 + HANDED_NUMBERS[call]
        answer = answer_call(beat, call, calls[place + 1:numbers_end])
        told.append(len(answer))
        told.extend(answer)
        place = numbers_end
    return told
