"""Letters that are led after a program along whatever chain of carryings, each taken once and in order."""

from warmove.errors import NoHouse, NoLetter


class Post:
    """The post of one program: where it is, where each house last led, and the letters under way to it."""

    # Carryings need no numbers here: where the program isn't, a house's last lead is behind whatever brought a copy.

    def __init__(self, houses, at, senders):
        self.place = at
        self.leads = [None] * houses
        self.known = [at] * senders
        # For each sender its letters that were not taken, in the order of sending.
        self.untaken = [[] for i in range(senders)]
        self.sender_of = []
        self.put_by = {}
        # The house of each copy that hasn't come, and how often each copy went on, by (letter, copy).
        self.under_way = {}
        self.went_on = {}
        self.copies = []

    def carry(self, to):
        """Carry the program to another house; refused with NoHouse where it is there."""
        if to == self.place:
            raise NoHouse(f"it is at house {to}")
        self.leads[self.place] = to
        self.place = to

    def send(self, i):
        """Send a sender's next letter, and tell its number."""
        letter = len(self.sender_of)
        self.sender_of.append(i)
        self.copies.append(0)
        self.untaken[i].append(letter)
        self.double(letter)
        return letter

    def double(self, letter):
        """Send a letter once more, and tell the number of the copy; refused with NoLetter."""
        if not 0 <= letter < len(self.sender_of):
            raise NoLetter(f"there is no letter {letter}")
        copy = self.copies[letter]
        self.copies[letter] = copy + 1
        self.under_way[(letter, copy)] = self.known[self.sender_of[letter]]
        self.went_on[(letter, copy)] = 0
        return copy

    def hop(self, letter, copy):
        """Let a copy come, or go on by one house: ("there",) or ("on", house); refused with NoLetter."""
        one = (letter, copy)
        if one not in self.under_way:
            raise NoLetter(f"no copy {copy} of letter {letter} is under way")
        house = self.under_way[one]
        if house == self.place:
            self.under_way.pop(one)
            self.put_by[letter] = True
            return ("there",)
        to = self.leads[house]
        self.under_way[one] = to
        self.went_on[one] += 1
        return ("on", to)

    def learn(self, i):
        """Let a sender know where the program is."""
        self.known[i] = self.place

    def take(self, i):
        """Take a sender's next letter, if it was put by, and tell its number, else None."""
        letters = self.untaken[i]
        if len(letters) == 0 or letters[0] not in self.put_by:
            return None
        return letters.pop(0)

    def hops(self, letter, copy):
        """Tell how often a copy went on; refused with NoLetter."""
        one = (letter, copy)
        if one not in self.went_on:
            raise NoLetter(f"there is no copy {copy} of letter {letter}")
        return self.went_on[one]
