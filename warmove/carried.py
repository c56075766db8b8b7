"""A program that runs while it is carried: one run, the same as if it had not been carried."""

from warmove.errors import NoHouse, NoStep
from warmove.ticks import tick


class Carried:
    """A program at a house, its letters, what it said, and the carrying that is on."""

    def __init__(self, program, stand, houses):
        self.program = program
        # A sheet that hasn't come can't be read, and comes as it is written: so the stand of the run
        # that isn't carried is kept, and which of its sheets are lacking besides.
        self.stand = stand
        self.lacking = {}
        self.houses = houses
        self.place = 0
        self.lying = []
        self.spoken = []
        self.done = 0
        # Where the carrying that is on leads to, None where none is on; the sheets that are there as
        # they are now; and how many copies it made.
        self.bound_for = None
        self.still = False
        self.copied = {}
        self.made = 0

    def tick(self):
        """Do one tick: (word, number), ("still",) or ("lacks", sheet)."""
        if self.still:
            return ("still",)
        stand, word, number, reads, writes = tick(self.program, self.stand, self.lying)
        for p in reads:
            if p in self.lacking:
                return ("lacks", p)
        for p in writes:
            self.copied.pop(p, None)
            self.lacking.pop(p, None)
        if word == "took":
            self.lying.pop(0)
        if word == "said":
            self.spoken.append(number)
        self.stand = stand
        self.done += 1
        return (word, number)

    def letter(self, v):
        """Lay a number there, behind the other letters."""
        self.lying.append(v)

    def begin(self, h):
        """Begin a carrying to another house; refused with NoHouse, then with NoStep."""
        if h == self.place or not 0 <= h < self.houses:
            raise NoHouse(f"it can't be carried to house {h}")
        if self.bound_for is not None or len(self.lacking) > 0:
            raise NoStep("a carrying is on, or some sheets haven't come")
        self.bound_for = h
        self.copied = {}
        self.made = 0

    def copy(self, p):
        """Copy a sheet as it is now; refused with NoStep."""
        if self.bound_for is None or self.still:
            raise NoStep("no carrying is on, or it stands still")
        self.copied[p] = True
        self.made += 1

    def stop(self):
        """Let it stand still, and tell the rising list of the sheets that are left; refused with NoStep."""
        if self.bound_for is None or self.still:
            raise NoStep("no carrying is on, or it stands still")
        self.still = True
        return self.left_ones()

    def end(self):
        """Carry what is left and go on over there; tell how many were copied and carried; refused with NoStep."""
        left = self.go_on_there()
        return self.made + len(left)

    def early(self):
        """Go on over there without what is left, and tell how many were copied; refused with NoStep."""
        left = self.go_on_there()
        self.lacking = {p: True for p in left}
        return self.made

    def bring(self, p):
        """Let a sheet come that hasn't; refused with NoStep."""
        if p not in self.lacking:
            raise NoStep(f"sheet {p} isn't lacking")
        self.lacking.pop(p)

    def drop(self):
        """Give the carrying up and go on where it is; refused with NoStep."""
        if self.bound_for is None:
            raise NoStep("no carrying is on")
        self.bound_for = None
        self.still = False

    def now(self):
        """Tell the stand."""
        return self.stand

    def said(self):
        """Tell the list of the numbers that were said."""
        return list(self.spoken)

    def house(self):
        """Tell where it is."""
        return self.place

    def ticks(self):
        """Tell how many ticks were done."""
        return self.done

    def left_ones(self):
        """Tell the rising list of the sheets that aren't over there as they are now."""
        return [p for p in range(self.program[0]) if p not in self.copied]

    def go_on_there(self):
        """Go on at the other house, and tell the sheets that were left to the stop; refused with NoStep."""
        if not self.still:
            raise NoStep("it doesn't stand still")
        self.place = self.bound_for
        self.bound_for = None
        self.still = False
        return self.left_ones()
