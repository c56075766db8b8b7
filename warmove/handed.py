"""Handed over by letters: rulebooks, what comes of their steps, whether two ever run, and whether it runs on."""

from warmove.errors import NoStep, TooMany
from warmove.plans import is_rising
from warmove.programs import is_tuple_of, is_whole, is_whole_within

MOST_STANDS = 50
MOST_LETTERS = 25
MOST_RULES = 100
FIRST = (0, 0, (), ())


def is_house(thing):
    """Tell of anything whether it tells of each stand of a house if the program runs there."""
    if not isinstance(thing, tuple) or not 1 <= len(thing) <= MOST_STANDS:
        return False
    return all(isinstance(runs, bool) for runs in thing)


def is_letter_or_none(thing, letters):
    """Tell of anything whether it is None or one of so many letters."""
    return thing is None or is_whole_within(thing, 0, letters - 1)


def is_rule(thing, old, new, letters):
    """Tell of anything whether it is a rule for these houses and so many letters."""
    if not is_tuple_of(thing, 5):
        return False
    house, at, heard, to, said = thing
    if not is_whole_within(house, 0, 1):
        return False
    last = len(new if house == 1 else old) - 1
    if not is_whole_within(at, 0, last) or not is_whole_within(to, 0, last):
        return False
    return is_letter_or_none(heard, letters) and is_letter_or_none(said, letters)


def is_rulebook(thing):
    """Tell of anything whether it is a rulebook."""
    if not is_tuple_of(thing, 4):
        return False
    old, new, letters, rules = thing
    if not is_house(old) or not is_house(new) or not is_whole_within(letters, 0, MOST_LETTERS):
        return False
    if not isinstance(rules, tuple) or len(rules) > MOST_RULES:
        return False
    return all(is_rule(rule, old, new, letters) for rule in rules)


def are_letters(thing, letters):
    """Tell of anything whether it is a rising tuple of so many letters, each once."""
    if not isinstance(thing, tuple) or not all(is_whole_within(letter, 0, letters - 1) for letter in thing):
        return False
    return is_rising(thing)


def is_state(book, thing):
    """Tell of anything whether it is a state of the rulebook's stands and letters."""
    if not is_tuple_of(thing, 4):
        return False
    old, new, letters, rules = book
    if not is_whole_within(thing[0], 0, len(old) - 1) or not is_whole_within(thing[1], 0, len(new) - 1):
        return False
    return are_letters(thing[2], letters) and are_letters(thing[3], letters)


def can_be_done(rule, state):
    """Tell whether a rule can be done in a state."""
    house, at, heard, to, said = rule
    # The letters of the old house stand at 2, those of the new one at 3; a house hears the other one's.
    return state[house] == at and (heard is None or heard in state[3 - house])


def letters_with(letters, said):
    """Tell the letters with one more, if one is said."""
    if said is None or said in letters:
        return letters
    return tuple(sorted(letters + (said,)))


def state_by(rule, state):
    """Tell the state that comes of a rule that can be done."""
    house, at, heard, to, said = rule
    old, new, by_old, by_new = state
    if house == 0:
        return (to, new, letters_with(by_old, said), by_new)
    return (old, to, by_old, letters_with(by_new, said))


def states_along(book, steps):
    """Tell the states behind none of the steps, behind the first one, and so on; refused with NoStep."""
    rules = book[3]
    states = [FIRST]
    for step in steps:
        if not is_whole_within(step, 0, len(rules) - 1):
            raise NoStep("a step is no number of a rule")
        if not can_be_done(rules[step], states[-1]):
            raise NoStep(f"rule {step} can't be done where it comes")
        states.append(state_by(rules[step], states[-1]))
    return states


def stand_behind(book, steps):
    """Tell the state behind steps; refused with NoStep."""
    return states_along(book, steps)[-1]


def running_houses(book, state):
    """Tell the houses at whose stands the program runs."""
    return [house for house in (0, 1) if book[house][state[house]]]


def runs_twice(book, state):
    """Tell whether two run in a state."""
    return len(running_houses(book, state)) == 2


def ways_from(book, state):
    """Tell a list of tuples (step, state), each rule that can be done in a state and what comes of it."""
    return [(step, state_by(rule, state)) for step, rule in enumerate(book[3]) if can_be_done(rule, state)]


def reached_from(book, first, limit):
    """Tell of each state to which steps lead from the first one (the state ahead, the step), None of the first."""
    came = {first: None}
    due = [first]
    at = 0
    while at < len(due):
        state = due[at]
        for step, behind in ways_from(book, state):
            if behind not in came:
                came[behind] = (state, step)
                due.append(behind)
        if len(came) > limit:
            raise TooMany(f"steps lead to more than {limit} states")
        at += 1
    return came


def steps_to(came, state):
    """Tell the steps that lead to a state that was reached."""
    steps = []
    while came[state] is not None:
        state, step = came[state]
        steps.append(step)
    return steps[::-1]


def two_run(book, limit=200):
    """Tell ("never", list) or ("two", steps); refused with TooMany where steps lead to more states than the limit."""
    came = reached_from(book, FIRST, limit)
    for state in came:
        if runs_twice(book, state):
            return ("two", steps_to(came, state))
    return ("never", list(came))


def steps_till_running(book, states):
    """Tell, for each of these states from which steps lead to where the program runs, how many it takes."""
    leading = {state: [] for state in states}
    for state in states:
        for step, behind in ways_from(book, state):
            leading[behind].append(state)
    due = [state for state in states if running_houses(book, state)]
    numbers = {state: 0 for state in due}
    at = 0
    while at < len(due):
        state = due[at]
        for ahead in leading[state]:
            if ahead not in numbers:
                numbers[ahead] = numbers[state] + 1
                due.append(ahead)
        at += 1
    return numbers


def runs_on(book, limit=200):
    """Tell ("on", list) or ("still", steps, list); refused with TooMany as two_run is."""
    came = reached_from(book, FIRST, limit)
    numbers = steps_till_running(book, list(came))
    for state in came:
        if state not in numbers:
            return ("still", steps_to(came, state), list(reached_from(book, state, limit)))
    return ("on", [(state, numbers[state]) for state in came])


def closes(book, first, some):
    """Tell of anything whether it is a list of states, each once, with this one and all that comes of its states."""
    if not isinstance(some, list) or not all(is_state(book, state) for state in some):
        return False
    held = {state: True for state in some}
    if len(held) != len(some) or first not in held:
        return False
    return all(behind in held for state in some for step, behind in ways_from(book, state))


def end_of(book, steps):
    """Tell of anything the state behind it, None where it is no steps that can be done."""
    if not isinstance(steps, list):
        return None
    try:
        return stand_behind(book, steps)
    except NoStep:
        return None


def is_two_run(book, thing):
    """Tell of anything whether it rightly tells whether two ever run."""
    if not is_tuple_of(thing, 2):
        return False
    word, shown = thing
    if word == "never":
        return closes(book, FIRST, shown) and not any(runs_twice(book, state) for state in shown)
    if word == "two":
        end = end_of(book, shown)
        return end is not None and runs_twice(book, end)
    return False


def is_right_number(book, numbers, state):
    """Tell whether a state's number is 0 just where it runs, else one from which a smaller one comes."""
    number = numbers[state]
    if running_houses(book, state):
        return number == 0
    return number >= 1 and any(numbers[behind] < number for step, behind in ways_from(book, state))


def shows_on(book, some):
    """Tell of anything whether it is a list of tuples (state, number) by which it can always run on."""
    if not isinstance(some, list) or not all(is_tuple_of(pair, 2) and is_whole(pair[1]) for pair in some):
        return False
    if not closes(book, FIRST, [state for state, number in some]):
        return False
    numbers = {state: number for state, number in some}
    return all(is_right_number(book, numbers, state) for state in numbers)


def shows_still(book, steps, some):
    """Tell of anything whether these are steps behind which, by these states, it never runs again."""
    end = end_of(book, steps)
    if end is None or not closes(book, end, some):
        return False
    return not any(running_houses(book, state) for state in some)


def is_runs_on(book, thing):
    """Tell of anything whether it rightly tells whether it can always run on."""
    if is_tuple_of(thing, 2) and thing[0] == "on":
        return shows_on(book, thing[1])
    if is_tuple_of(thing, 3) and thing[0] == "still":
        return shows_still(book, thing[1], thing[2])
    return False


def new_letters(house, before, behind):
    """Tell the letters that a house has said in a later state and not in an earlier one."""
    return [letter for letter in behind[2 + house] if letter not in before[2 + house]]


def changes(book, steps):
    """Tell ("fresh", changes) of steps, or ("two", others), steps behind which two run; refused with NoStep."""
    told = []
    ran = None
    states = states_along(book, steps)
    for j, state in enumerate(states):
        running = running_houses(book, state)
        if len(running) == 2:
            return ("two", steps[:j])
        if len(running) == 0:
            continue
        if ran is not None and ran[1] != running[0]:
            i, house = ran
            fresh = new_letters(house, states[i], state)
            if len(fresh) == 0:
                # The other house heard nothing new, so it can do the same while this one still runs.
                return ("two", steps[:i] + [step for step in steps[i:j] if book[3][step][0] != house])
            told.append((i, j, house, fresh[0]))
        ran = (j, running[0])
    return ("fresh", told)


def rulebook(turns):
    """Tell (rulebook, steps): as few letters as so many changes need, and steps that have just so many changes."""
    # Behind each change both houses stand one further on: at even stands the old one runs, at odd ones the new one.
    # The one that stops says a letter that it had not said; the other one waits for it.
    rules = []
    for k in range(turns):
        house = k % 2
        rules.append((house, k, None, k + 1, k // 2))
        rules.append((1 - house, k, k // 2, k + 1, None))
    old = tuple(k % 2 == 0 for k in range(turns + 1))
    new = tuple(k % 2 == 1 for k in range(turns + 1))
    return ((old, new, (turns + 1) // 2, tuple(rules)), list(range(len(rules))))
