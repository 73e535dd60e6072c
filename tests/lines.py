"""Calls in plain words, and their answers one by one."""

from evenbeats.beat import answers


def begins(lo, hi, off):
    return [0, lo, hi, off]


def seen(time):
    return [1, time]


def drop(time):
    return [2, time]


def periods():
    return [3]


def fits(above, below):
    return [4, above, below]


def could(time):
    return [5, time]


def window(above, below):
    return [6, above, below]


def beats(stretch):
    return [7, stretch]


def next_one(above, below, time):
    return [8, above, below, time]


def alone():
    return [9]


def times_seen():
    return [10]


def split(told):
    """The answers, each the list of its numbers, of what is told in one row."""
    found = []
    place = 0
    while place < len(told):
        end = place + 1 + told[place]
        if told[place] < 1 or end > len(told):
            raise AssertionError(f"no whole answers: {told}")
        found.append(told[place + 1:end])
        place = end
    return found


def run(*calls):
    """What each call answers, on one new beat."""
    found = split(answers([number for call in calls for number in call]))
    if len(found) != len(calls):
        raise AssertionError(f"{len(calls)} calls, {len(found)} answers")
    return found


def last(*calls):
    """What the last of the calls answers, on one new beat."""
    return run(*calls)[-1]
