"""Plans of a carrying: what is left by one, whether it is one, how much it carries."""

from warmove.traces import outdated


def last_copyings(copies, stop):
    """Tell, for each sheet copied at a tick from 0 to stop - 1, the greatest of these ticks."""
    last = {}
    for tick, p in copies:
        if 0 <= tick < stop:
            last[p] = max(tick, last.get(p, 0))
    return last


def left_by(n, trace, plan):
    """Tell the rising list of the sheets that are left by a plan."""
    copies, stop = plan
    return outdated(n, trace, last_copyings(copies, stop), stop)


def is_rising(things):
    """Tell whether things are sorted, none of them twice."""
    return all(one < other for one, other in zip(things, things[1:]))


def most_at_a_tick(copies):
    """Tell how many copies there are at the tick that has the most."""
    many = {}
    for tick, p in copies:
        many[tick] = many.get(tick, 0) + 1
    return max(many.values(), default=0)


def is_plan(n, trace, b, s, plan):
    """Tell whether a plan is one for b and s."""
    copies, stop = plan
    if stop < 0 or not is_rising(copies):
        return False
    if not all(0 <= tick < stop and 0 <= p < n for tick, p in copies):
        return False
    return most_at_a_tick(copies) <= b and len(left_by(n, trace, plan)) <= s


def carried_by(n, trace, plan):
    """Tell how many sheets are carried by a plan, copies and left ones together."""
    return len(plan[0]) + len(left_by(n, trace, plan))
