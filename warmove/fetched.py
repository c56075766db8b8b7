"""Fetched as they are read: sheets that come over there while the program already runs there."""


def done_at(touches, order, asking):
    """Tell (ticks, lost); where asking, at a lost tick the least sheet that is lacking comes in the order's place."""
    there = {}
    ticks = []
    tick = 0
    while len(ticks) < len(touches):
        reads, writes = touches[len(ticks)]
        lacking = [p for p in reads if p not in there]
        if len(lacking) == 0:
            ticks.append(tick)
            for p in writes:
                there[p] = True
        asked = lacking[:1] if asking else []
        coming = [p for p in asked + order if p not in there]
        if len(coming) > 0:
            there[coming[0]] = True
        tick += 1
    # Each tick ahead of the last deed did a deed or was lost.
    return (ticks, tick - len(ticks))


def fetched(n, touches, order):
    """Tell (ticks, lost): the tick at which each deed is done, and how many are lost ahead of the last one."""
    return done_at(touches, order, False)


def asked_for(n, touches, order):
    """Tell (ticks, lost), where at a lost tick the least sheet that the deed lacks comes."""
    return done_at(touches, order, True)


def first_needs(touches):
    """Tell, for each sheet that is read ahead of being written, the first deed that reads it, in order of deeds."""
    needs = {}
    written = {}
    for deed, (reads, writes) in enumerate(touches):
        for p in reads:
            if p not in written and p not in needs:
                needs[p] = deed
        for p in writes:
            written[p] = True
    return needs


def least_lost(n, touches):
    """Tell (order, lost, deed): an order that loses as few ticks as any, and a deed that shows it, or None."""
    needs = first_needs(touches)
    order = list(needs) + [p for p in range(n) if p not in needs]
    # A deed is done at no tick below how many sheets must have come for it and for those ahead of it.
    lost, deed = max([(place + 1 - needs[p], needs[p]) for place, p in enumerate(needs)], default=(0, 0))
    if lost <= 0:
        return (order, 0, None)
    return (order, lost, deed)
