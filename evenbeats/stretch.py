"""The stretches: which periods there are with some times, and with which beats."""

from evenbeats.fraction import divided_down, divided_up, greater, is_less, lesser


class Stretch:
    def __init__(self, shortest, longest, row):
        """All periods from the shortest to the longest, both too; the row is the beats that they share."""
        self.shortest = shortest
        self.longest = longest
        self.row = row

    def holds(self, period):
        """Whether the fraction is a period of this stretch."""
        return not is_less(period, self.shortest) and not is_less(self.longest, period)


def beats_to_try(stretch, times, time, slack):
    """The beats that a time behind the others may have in the stretch, the greatest first."""
    if len(times) == 0:
        return [0]
    apart = time - times[0]
    most = divided_down(apart + slack, stretch.shortest)
    least = divided_up(apart - slack, stretch.longest)
    return list(range(most, least - 1, -1))


def narrowed(stretch, times, time, beat, slack):
    """The part of the stretch where a time behind the others has the beat; None if there's no such part."""
    shortest = stretch.shortest
    longest = stretch.longest
    # One beat 0 is near enough to all times just if it is to each two of them:
    # they are to be apart by as many periods as their beats, but for the slack.
    for earlier, earlier_beat in zip(times, stretch.row):
        apart = time - earlier
        periods_between = beat - earlier_beat
        if periods_between > 0:
            shortest = greater(shortest, (apart - slack, periods_between))
            longest = lesser(longest, (apart + slack, periods_between))
        elif apart > slack:
            # It is 0 here, never below: a period is longer than the slack twice,
            # so that a later time has no lower beat.
            return None
    if is_less(longest, shortest):
        return None
    return Stretch(shortest, longest, stretch.row + [beat])


def parts_with(stretch, times, time, slack):
    """The parts of the stretch, in rising order, that are left with a time behind the others."""
    parts = []
    # The greater the beat, the shorter the periods that lead to it.
    for beat in beats_to_try(stretch, times, time, slack):
        part = narrowed(stretch, times, time, beat, slack)
        if part is not None:
            parts.append(part)
    return parts


def find_stretches(lo, hi, off, times):
    """All stretches in rising order, for times in rising order."""
    # Two times may both be off, the one early and the other late.
    slack = 2 * off
    found = [Stretch((lo, 1), (hi, 1), [])]
    for place, time in enumerate(times):
        parts = []
        for stretch in found:
            parts.extend(parts_with(stretch, times[:place], time, slack))
        found = parts
    return found
