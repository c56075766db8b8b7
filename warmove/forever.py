"""One that goes round for ever: the earliest stop of all, or that there is none."""

from warmove.stops import bars_by, earliest
from warmove.traces import writings_by_stop


def telling_trace(n, lead, ring, b):
    """Tell as much of the trace as shows all stops there are: each later one is like one a ring ahead of it."""
    # What bars a stop stands at most as many ticks ahead of it as copying all sheets needs. Where so many ticks
    # ahead of a stop are in rings, it is barred just where the stop one ring ahead is.
    # A b below 1 is out of bounds but no error.
    pace = max(b, 1)
    needed = (n + pace - 1) // pace
    # The stop behind the last tick is told, too.
    ticks = len(lead) + len(ring) + needed - 1
    return (lead + ring * needed)[:ticks]


def ever(n, lead, ring, b, s):
    """Tell ("stop", stop, copies) of the least stop of all that isn't barred, or ("never", bars)."""
    told = earliest(n, telling_trace(n, lead, ring, b), b, s)
    if told[0] == "stop":
        return told
    return ("never", told[1])


def shows_never(n, lead, ring, b, s, some):
    """Tell of a list of whole numbers whether it bars all the stops by which no stop at all is unbarred."""
    ahead = writings_by_stop(n, telling_trace(n, lead, ring, b))
    if len(some) != len(ahead):
        return False
    return all(bars_by(last, b, s, stop, t) for stop, (last, t) in enumerate(zip(ahead, some)))
