"""The earliest stop: what bars a stop, a plan for one that isn't barred, and how few must be left to it."""

from warmove.traces import last_writings, writings_by_stop


def too_many_behind(last, b, stop, t):
    """Tell how many more sheets have their last writing at t or behind it than can be copied for good behind t."""
    return sum(1 for tick in last if tick >= t) - b * (stop - t - 1)


def bars_by(last, b, s, stop, t):
    """Tell whether t bars a stop ahead of which the sheets have these last writings."""
    return -1 <= t < stop and too_many_behind(last, b, stop, t) > s


def must_be_left(last, b, stop):
    """Tell (many, t): how many sheets must be left to the stop, and a t that bars it for one fewer."""
    # Between two last writings a greater t leaves fewer ticks for the same sheets, so no other t bars more.
    # Behind stop - 1 nothing can be copied: by it many is 0 at least.
    return max([(too_many_behind(last, b, stop, t), t) for t in [stop - 1, *last]])


def late_copies(last, b, left, stop):
    """Tell copies, as late as may be, of all sheets but so many that are left, those that are written last."""
    latest = sorted(range(len(last)), key=lambda p: -last[p])
    return sorted((stop - 1 - place // b, p) for place, p in enumerate(latest[left:]))


def told_of_stop(last, b, s, stop):
    """Tell ("plan", copies) or ("barred", t) of a stop ahead of which the sheets have these last writings."""
    many, t = must_be_left(last, b, stop)
    if many > s:
        return ("barred", t)
    return ("plan", late_copies(last, b, many, stop))


def bars(n, trace, b, s, stop, t):
    """Tell of any whole number whether it bars the stop for b and s."""
    return bars_by(last_writings(n, trace, stop), b, s, stop, t)


def plan_for(n, trace, b, s, stop):
    """Tell of a stop ("plan", copies) or ("barred", t)."""
    return told_of_stop(last_writings(n, trace, stop), b, s, stop)


def earliest(n, trace, b, s):
    """Tell ("stop", stop, copies) of the least stop that isn't barred, or ("barred", bars) with one for each stop."""
    barring = []
    for stop, last in enumerate(writings_by_stop(n, trace)):
        word, found = told_of_stop(last, b, s, stop)
        if word == "plan":
            return ("stop", stop, found)
        barring.append(found)
    return ("barred", barring)


def least_left(n, trace, b, stop):
    """Tell (least, t): the least s for which there is a plan, and what bars the stop for one fewer, or None."""
    many, t = must_be_left(last_writings(n, trace, stop), b, stop)
    return (many, t if many > 0 else None)
