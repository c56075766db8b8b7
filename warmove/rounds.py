"""Carrying in rounds: first all sheets, then again those written since, until few are left."""

from warmove.traces import outdated


def rounds(n, trace, b, s, most):
    """Tell (rounds, stop, left): the tick each round begins and its sheets, the stop, and the sheets left to it."""
    # A b below 1 is out of bounds but no error, and a round must end.
    pace = max(b, 1)
    told = []
    copied = {}
    end = 0
    due = tuple(range(n))
    while len(told) == 0 or (len(due) > s and len(told) < most):
        told.append((end, due))
        for place, p in enumerate(due):
            copied[p] = end + place // pace
        end += (len(due) + pace - 1) // pace
        due = tuple(outdated(n, trace, copied, end))
    return (told, end, due)
