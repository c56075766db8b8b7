"""What a trace does to copies: which sheets are no more as they were copied."""


def last_writings(n, trace, stop):
    """Tell, for each sheet, the last tick ahead of the stop at which it is written, -1 where there is none."""
    last = {}
    # A stop may be far behind the trace's end, where nothing is written, or below 0.
    for tick in range(min(stop, len(trace))):
        for p in trace[tick]:
            last[p] = tick
    return [last.get(p, -1) for p in range(n)]


def outdated(n, trace, copied, stop):
    """Tell the rising list of the sheets whose copies don't hold at the stop; copied has each one's last copying."""
    written = last_writings(n, trace, stop)
    # A tick copies first and writes then: what is written at the tick of its copying is written behind it.
    return [p for p in range(n) if p not in copied or written[p] >= copied[p]]


def writings_by_stop(n, trace):
    """Tell, for each stop from 0 to the trace's length, the last writings ahead of it."""
    told = [[-1] * n]
    for tick, written in enumerate(trace):
        told.append([tick if p in written else last for p, last in enumerate(told[-1])])
    return told
