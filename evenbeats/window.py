"""Windows: from when to when a beat can be. Both ends have what's below of the period's fraction."""


def window_of_beat_0(times, row, off, period):
    """The least beat 0 and the greatest by the period, for times with the beats of the row."""
    above = period[0]
    below = period[1]
    # Whole numbers do, as all is reckoned in parts of which below make one.
    without_periods = [time * below - beat * above for time, beat in zip(times, row)]
    # The latest of these may be late by all of off, the earliest early by it.
    least = max(without_periods) - off * below
    greatest = min(without_periods) + off * below
    return ((least, below), (greatest, below))


def window_not_ahead(window, period, time):
    """The first of the windows, whole periods from the given one, that doesn't end below the time."""
    above = period[0]
    below = period[1]
    least = window[0][0]
    greatest = window[1][0]
    # Rounded up: one period less would leave the whole window below the time.
    periods_between = -((greatest - time * below) // above)
    moved_by = periods_between * above
    return ((least + moved_by, below), (greatest + moved_by, below))
