"""Runs of a program: what is behind so many ticks, and what they said and touched."""

from warmove.ticks import tick


def all_ticks(program, stand, letters, many):
    """Do so many ticks; tell, for each of them, what tick tells of it."""
    told = []
    lying = []
    came = 0
    for now in range(many):
        while came < len(letters) and letters[came][0] <= now:
            lying.append(letters[came][1])
            came += 1
        done = tick(program, stand, lying)
        if done[1] == "took":
            lying.pop(0)
        stand = done[0]
        told.append(done)
    return told


def run(program, stand, letters, many):
    """Tell the stand behind so many ticks, and what was said, a list of tuples (tick, number)."""
    done = all_ticks(program, stand, letters, many)
    said = [(at, number) for at, (behind, word, number, reads, writes) in enumerate(done) if word == "said"]
    # Without a tick there is no last one whose stand could be told.
    return (done[-1][0] if done else stand, said)


def touches(program, stand, letters, many):
    """Tell, for each of so many ticks, a tuple (reads, writes)."""
    return [done[3:] for done in all_ticks(program, stand, letters, many)]


def trace(program, stand, letters, many):
    """Tell, for each of so many ticks, the sheets written."""
    return [done[4] for done in all_ticks(program, stand, letters, many)]
