"""Where a program without take rows comes to: to its end, or round and round."""

from warmove.errors import TooMany
from warmove.ticks import tick

MOST_TICKS = 1000


def round_of(program, stand):
    """Tell ("ends", many) or ("round", lead, ring); refused with TooMany where it takes too many ticks."""
    # Without letters the stand alone decides what comes: the first stand seen twice closes the ring.
    seen = {}
    for many in range(MOST_TICKS + 1):
        behind, word, number, reads, writes = tick(program, stand, [])
        if word == "ended":
            return ("ends", many)
        if stand in seen:
            lead = seen[stand]
            return ("round", lead, many - lead)
        seen[stand] = many
        stand = behind
    raise TooMany(f"neither an end nor a round within {MOST_TICKS} ticks")
