"""A carried program as the document tells it: sheets that lie in houses, and copies of them."""

from warmove.errors import NoHouse, NoStep


class Model:
    """A carried program whose sheets are there or not; what each call tells, or the error that refuses it."""

    def __init__(self, program, stand, houses):
        self.n, self.w, self.rows = program
        self.at, self.sheets = stand[0], dict(enumerate(stand[1]))
        self.houses, self.place, self.lying, self.spoken, self.done = houses, 0, [], [], 0
        self.bound_for, self.still, self.made = None, False, 0
        self.copies, self.writings, self.at_the_stop = {}, {p: 0 for p in range(self.n)}, {}

    def row(self):
        return self.rows[self.at] if self.at < len(self.rows) else ("end",)

    def write(self, p, number):
        self.sheets[p] = number
        self.writings[p] += 1
        self.at_the_stop.pop(p, None)

    def tick(self):
        if self.still:
            return ("still",)
        word, *parts = self.row()
        read = {"add": parts, "jump": parts[:1], "say": parts[:1]}.get(word, [])
        lacking = [p for p in range(self.n) if p in read and p not in self.sheets]
        if lacking:
            return ("lacks", lacking[0])
        self.done += 1
        if word == "end":
            return ("ended", None)
        if word == "take" and not self.lying:
            return ("waits", None)
        self.at += 1
        if word == "set":
            self.write(*parts)
        if word == "add":
            self.write(parts[0], sum(self.sheets[p] for p in parts) % self.w)
        if word == "jump" and self.sheets[parts[0]] == 0:
            self.at = parts[1]
        if word == "say":
            self.spoken.append(self.sheets[parts[0]])
            return ("said", self.spoken[-1])
        if word == "take":
            self.write(parts[0], self.lying.pop(0))
            return ("took", self.sheets[parts[0]])
        return ("did", None)

    def letter(self, v):
        self.lying.append(v)

    def begin(self, h):
        if h == self.place or h not in range(self.houses):
            return NoHouse
        if self.bound_for is not None or self.at_the_stop:
            return NoStep
        self.bound_for, self.made, self.copies = h, 0, {}
        return None

    def copy(self, p):
        if self.bound_for is None or self.still:
            return NoStep
        self.copies[p] = (self.sheets[p], self.writings[p])
        self.made += 1
        return None

    def left(self):
        return [p for p in range(self.n) if p not in self.copies or self.copies[p][1] != self.writings[p]]

    def stop(self):
        if self.bound_for is None or self.still:
            return NoStep
        self.still = True
        return self.left()

    def go_on(self, left):
        """Go on with what was copied, and tell what these held at the stop."""
        at_the_stop = {p: self.sheets[p] for p in left}
        self.sheets = {p: self.copies[p][0] for p in range(self.n) if p not in left}
        self.place, self.bound_for, self.still = self.bound_for, None, False
        return at_the_stop

    def end(self):
        if not self.still:
            return NoStep
        left = self.left()
        besides = self.go_on(left)
        self.sheets.update(besides)
        return self.made + len(left)

    def early(self):
        if not self.still:
            return NoStep
        self.at_the_stop = self.go_on(self.left())
        return self.made

    def bring(self, p):
        if p not in self.at_the_stop:
            return NoStep
        self.sheets[p] = self.at_the_stop.pop(p)
        return None

    def drop(self):
        if self.bound_for is None:
            return NoStep
        self.bound_for, self.still = None, False
        return None

    def now(self):
        held = {**self.at_the_stop, **self.sheets}
        return (self.at, tuple(held[p] for p in range(self.n)))

    def said(self):
        return list(self.spoken)

    def house(self):
        return self.place

    def ticks(self):
        return self.done


def some_program(chance):
    """Tell a program by chance that goes round rather than to its end."""
    n, w, many = chance.randint(1, 6), chance.randint(2, 12), chance.randint(1, 12)
    rows = []
    for _ in range(many):
        p, q = chance.randrange(n), chance.randrange(n)
        rows.append(chance.choice([
            ("set", p, chance.randrange(w)), ("add", p, q), ("add", p, q), ("jump", p, chance.randrange(many)),
            ("say", p), ("say", p), ("take", p),
        ]))
    # Where the last row is behind, it goes to the first one again if it can.
    rows += [("set", 0, 0), ("jump", 0, 0)] if chance.randrange(4) else [("end",)]
    stand = (chance.randrange(many), tuple(chance.randrange(w) for _ in range(n)))
    return (n, w, tuple(rows)), stand


def some_call(chance, model):
    """Tell a call by chance: a word and its arguments."""
    word = chance.choice(
        ["tick"] * 8 + ["copy"] * 6 + ["letter", "letter", "begin", "begin", "stop", "end", "early", "bring", "bring", "drop"]
    )
    if word == "letter":
        return word, (chance.randrange(model.w),)
    if word == "begin":
        return word, (chance.randint(-1, model.houses),)
    if word in ("copy", "bring"):
        return word, (chance.randrange(model.n),)
    return word, ()
