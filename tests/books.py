"""Rulebooks, and what the document says of them, word by word."""

# Old stops and says 0; new hears it, runs, stops and says 0; old hears that and runs again.
HANDED = (
    (True, False, True),
    (False, True, False),
    1,
    ((0, 0, None, 1, 0), (1, 0, 0, 1, None), (1, 1, None, 2, 0), (0, 1, 0, 2, None)),
)
# New doesn't wait for the letter.
HASTY = ((True, False), (False, True), 1, ((0, 0, None, 1, 0), (1, 0, None, 1, None)))
# Old stops, and nobody is told.
SILENT = ((True, False), (False, True), 0, ((0, 0, None, 1, None),))
# One goes to and fro, saying the one letter that there is; a letter heard again is enough for a second change.
TWICE = (
    (True, False),
    (False, True),
    1,
    ((0, 0, None, 1, 0), (1, 0, 0, 1, None), (1, 1, None, 0, 0), (0, 1, 0, 0, None)),
)
FIRST = (0, 0, (), ())


def done(book, state, rule):
    """Tell the state behind a rule, None where it can't be done."""
    house, at, heard, to, said = rule
    stands, told = list(state[:2]), [set(state[2]), set(state[3])]
    if stands[house] != at or (heard is not None and heard not in told[1 - house]):
        return None
    stands[house] = to
    if said is not None:
        told[house].add(said)
    return (stands[0], stands[1], tuple(sorted(told[0])), tuple(sorted(told[1])))


def behind(book, state):
    """Tell all states that come of a rule."""
    states = [done(book, state, rule) for rule in book[3]]
    return {state for state in states if state is not None}


def all_states(book, first=FIRST):
    """Tell all states to which steps lead."""
    found, due = {first}, [first]
    while due:
        for state in behind(book, due.pop()) - found:
            found.add(state)
            due.append(state)
    return found


def running(book, state):
    """Tell at how many houses the program runs."""
    return [book[0][state[0]], book[1][state[1]]].count(True)


def some_book(chance, most_stands=3, most_letters=2, most_rules=6):
    """Tell a rulebook by chance."""
    old, new = [
        tuple(chance.random() < 0.4 for _ in range(chance.randint(1, most_stands))) for _ in range(2)
    ]
    letters = chance.randint(0, most_letters)
    said = [None] + list(range(letters))
    rules = []
    for _ in range(chance.randint(0, most_rules)):
        house = chance.randrange(2)
        many = len((old, new)[house])
        at, to = chance.randrange(many), chance.randrange(many)
        rules.append((house, at, chance.choice(said), to, chance.choice(said)))
    return (old, new, letters, tuple(rules))


def some_steps(chance, book, many):
    """Tell steps that can be done, by chance, at most so many."""
    state, steps = FIRST, []
    for _ in range(many):
        ways = [step for step, rule in enumerate(book[3]) if done(book, state, rule) is not None]
        if not ways:
            break
        steps.append(chance.choice(ways))
        state = done(book, state, book[3][steps[-1]])
    return steps


def chain(many, letters=0):
    """Tell a rulebook with just so many states, at most 50, in which the old house always runs."""
    rules = tuple((0, at, None, at + 1, None) for at in range(many - 1))
    return ((True,) * many, (False,), letters, rules)


def grid(old, new):
    """Tell a rulebook whose houses go on each by itself: as many states as old times new."""
    rules = [(0, at, None, at + 1, None) for at in range(old - 1)]
    rules += [(1, at, None, at + 1, None) for at in range(new - 1)]
    return ((True,) * old, (False,) * new, 0, tuple(rules))
