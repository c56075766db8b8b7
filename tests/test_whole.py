"""What the document promises over the whole program: points 1 to 3."""

import importlib
import inspect
import random
import unittest

from carrying import some_program
from warmove.carried import Carried
from warmove.desk import Desk
from warmove.errors import MoveError, TooMany
from warmove.fetched import asked_for, fetched, least_lost
from warmove.forever import ever, shows_never
from warmove.handed import changes, is_runs_on, is_two_run, rulebook, runs_on, two_run
from warmove.plans import carried_by, is_plan
from warmove.post import Post
from warmove.rings import round_of
from warmove.runs import run, touches, trace
from warmove.texts import program_text, read_program

# Each function and class of the interface, its arguments, and the methods of each class with theirs.
INTERFACE = {
    "errors": {"NoText": ["line"]},
    "programs": {"is_program": ["thing"], "is_stand": ["program", "thing"]},
    "ticks": {"tick": ["program", "stand", "letters"]},
    "runs": {name: ["program", "stand", "letters", "many"] for name in ("run", "touches", "trace")},
    "rings": {"round_of": ["program", "stand"]},
    "rounds": {"rounds": ["n", "trace", "b", "s", "most"]},
    "plans": {
        "left_by": ["n", "trace", "plan"], "is_plan": ["n", "trace", "b", "s", "plan"], "carried_by": ["n", "trace", "plan"],
    },
    "stops": {
        "bars": ["n", "trace", "b", "s", "stop", "t"], "plan_for": ["n", "trace", "b", "s", "stop"],
        "earliest": ["n", "trace", "b", "s"], "least_left": ["n", "trace", "b", "stop"],
    },
    "forever": {"ever": ["n", "lead", "ring", "b", "s"], "shows_never": ["n", "lead", "ring", "b", "s", "some"]},
    "fetched": {
        "fetched": ["n", "touches", "order"], "asked_for": ["n", "touches", "order"], "least_lost": ["n", "touches"],
    },
    "handed": {
        "is_rulebook": ["thing"], "stand_behind": ["book", "steps"], "two_run": ["book", "limit"],
        "runs_on": ["book", "limit"], "is_two_run": ["book", "thing"], "is_runs_on": ["book", "thing"],
        "changes": ["book", "steps"], "rulebook": ["turns"],
    },
    "post": {"Post": ["houses", "at", "senders"]},
    "carried": {"Carried": ["program", "stand", "houses"]},
    "texts": {"program_text": ["program"], "read_program": ["text"]},
    "desk": {"Desk": []},
}
METHODS = {
    ("post", "Post"): {
        "carry": ["to"], "send": ["i"], "double": ["letter"], "hop": ["letter", "copy"], "learn": ["i"], "take": ["i"],
        "hops": ["letter", "copy"],
    },
    ("carried", "Carried"): {
        "tick": [], "letter": ["v"], "begin": ["h"], "copy": ["p"], "stop": [], "end": [], "early": [], "bring": ["p"],
        "drop": [], "now": [], "said": [], "house": [], "ticks": [],
    },
    ("desk", "Desk"): {"say": ["row"]},
}
PROGRAM = (2, 5, (("set", 0, 3), ("add", 1, 0), ("say", 1), ("jump", 0, 3)))
STAND = (0, (1, 2))
TRACE = [(0,), (1,), (), ()]
BOOK = ((True, False), (False, True), 1, ((0, 0, None, 1, 0), (1, 0, 0, 1, None)))
# For each argument something to hand in.
HANDED = {
    "thing": PROGRAM, "program": PROGRAM, "stand": STAND, "letters": [], "many": 5, "n": 2, "trace": TRACE, "b": 1, "s": 1,
    "most": 4, "plan": ([(2, 0), (3, 1)], 4), "stop": 3, "t": 1, "lead": TRACE, "ring": [(0,)], "some": [0],
    "touches": [((0,), (1,)), ((1,), ())], "order": [1, 0], "book": BOOK, "steps": [0, 1], "limit": 9, "turns": 4,
    "text": "1 2\nend", "line": 5, "houses": 3, "at": 1, "senders": 2,
}


class TestInterface(unittest.TestCase):
    def each(self):
        """Tell each name of the interface: its thing and its arguments."""
        for module, names in INTERFACE.items():
            for name, arguments in names.items():
                yield name, getattr(importlib.import_module("warmove." + module), name), arguments

    def test_names_and_their_order(self):
        for name, thing, arguments in self.each():
            self.assertEqual(list(inspect.signature(thing).parameters), arguments, name)

    def test_defined_where_it_is_listed(self):
        for module, names in INTERFACE.items():
            for name in names:
                thing = getattr(importlib.import_module("warmove." + module), name)
                self.assertEqual((thing.__module__, thing.__name__), ("warmove." + module, name))

    def test_methods_are_their_classes_own(self):
        for (module, name), methods in METHODS.items():
            kind = getattr(importlib.import_module("warmove." + module), name)
            for method, arguments in methods.items():
                self.assertIn(method, vars(kind))
                self.assertEqual(list(inspect.signature(vars(kind)[method]).parameters)[1:], arguments, method)

    def test_functions_by_names_in_another_order(self):
        for name, thing, arguments in self.each():
            if inspect.isfunction(thing):
                by_place = thing(*[HANDED[argument] for argument in arguments])
                self.assertEqual(thing(**{argument: HANDED[argument] for argument in arguments[::-1]}), by_place, name)

    def test_classes_by_names_in_another_order(self):
        post = Post(senders=HANDED["senders"], at=HANDED["at"], houses=HANDED["houses"])
        carried = Carried(houses=2, stand=STAND, program=PROGRAM)
        self.assertEqual((post.send(1), carried.now()), (0, STAND))

    def test_limits_have_a_default(self):
        for name, thing, arguments in self.each():
            defaults = {one.name: one.default for one in inspect.signature(thing).parameters.values()}
            given = {argument: value for argument, value in defaults.items() if value is not inspect.Parameter.empty}
            self.assertEqual(given, {"limit": 200} if name in ("two_run", "runs_on") else {}, name)


class Travel:
    """A program that is carried to and fro by chance, with letters led after it by a post."""

    def __init__(self, chance, program, stand):
        self.chance = chance
        self.program = program
        self.senders = 3
        self.carried = Carried(program, stand, 4)
        self.post = Post(4, 0, self.senders)
        self.numbers = []
        self.sent_by = []
        self.under_way = []
        self.came = []
        self.refusals = 0

    def send(self):
        sender = self.chance.randrange(self.senders)
        letter = self.post.send(sender)
        self.sent_by.append(sender)
        self.numbers.append(self.chance.randrange(self.program[1]))
        self.under_way.append((letter, 0))

    def lead(self):
        """Let some copy hop, double some letter, and hand on what is taken."""
        if self.numbers and self.chance.randrange(4) == 0:
            letter = self.chance.randrange(len(self.numbers))
            self.under_way.append((letter, self.post.double(letter)))
        if self.under_way:
            at = self.chance.randrange(len(self.under_way))
            if self.post.hop(*self.under_way[at]) == ("there",):
                self.under_way.pop(at)
        if self.chance.randrange(6) == 0:
            self.post.learn(self.chance.randrange(self.senders))
        self.hand_on()

    def hand_on(self):
        for i in range(self.senders):
            letter = self.post.take(i)
            if letter is not None:
                self.came.append((self.carried.ticks(), letter))
                self.carried.letter(self.numbers[letter])

    def move(self):
        """Call something by chance; the post hears where the program goes on."""
        word = self.chance.choice(["begin", "copy", "copy", "copy", "stop", "end", "early", "bring", "bring", "drop"])
        handed = [self.chance.randrange({"begin": 4}.get(word, self.program[0]))]
        try:
            getattr(self.carried, word)(*(handed if word in ("begin", "copy", "bring") else []))
        except MoveError:
            self.refusals += 1
        else:
            if word in ("end", "early"):
                self.post.carry(self.carried.house())

    def bring_home(self):
        """Let all letters come."""
        while self.under_way:
            if self.post.hop(*self.under_way[-1]) == ("there",):
                self.under_way.pop()
        for _ in self.numbers:
            self.hand_on()


class TestOneRun(unittest.TestCase):
    def travelled(self, seed):
        chance = random.Random(seed)
        program, stand = some_program(chance)
        travel = Travel(chance, program, stand)
        for _ in range(200):
            chance.choice([travel.send, travel.lead, travel.lead, travel.move, travel.carried.tick, travel.carried.tick])()
        travel.bring_home()
        return program, stand, travel

    def test_carried_to_and_fro_with_letters_led_after_it(self):
        houses = set()
        for seed in range(150):
            program, stand, travel = self.travelled(seed)
            carried = travel.carried
            for _ in range(5):
                carried.tick()
            houses.add(carried.house())
            letters = [(tick, travel.numbers[letter]) for tick, letter in travel.came]
            behind, said = run(program, stand, letters, carried.ticks())
            self.assertEqual(carried.now(), behind)
            self.assertEqual(carried.said(), [number for tick, number in said])
        self.assertEqual(houses, {0, 1, 2, 3})

    def test_each_letter_comes_once_and_in_order(self):
        for seed in range(150):
            program, stand, travel = self.travelled(seed)
            letters = [letter for tick, letter in travel.came]
            self.assertEqual(sorted(letters), list(range(len(travel.numbers))))
            for i in range(travel.senders):
                mine = [letter for letter in letters if travel.sent_by[letter] == i]
                self.assertEqual(mine, sorted(mine))
                self.assertIsNone(travel.post.take(i))

    def test_at_a_desk(self):
        chance = random.Random(25)
        for _ in range(40):
            program, stand = some_program(chance)
            self.assertEqual(read_program(program_text(program)), program)
            desk, letters, done = Desk(), [], 0
            desk.say("program " + program_text(program).replace("\n", " / "))
            for _ in range(120):
                row = chance.choice(["tick", "tick", "letter 1", "begin 1", "begin 0", "copy 0", "stop", "end", "early",
                                     "bring 0", "drop"])
                try:
                    told = desk.say(row)
                except MoveError:
                    continue
                if row == "letter 1":
                    letters.append((done, 1))
                if row == "tick" and told.split(" ")[0] not in ("still", "lacks"):
                    done += 1
            (at, sheets), said = run(program, (0, (0,) * program[0]), letters, done)
            self.assertEqual(desk.say("now"), " ".join(str(number) for number in (at, *sheets)))
            self.assertEqual(desk.say("said"), " ".join(str(number) for tick, number in said) or "-")


class TestPromise(unittest.TestCase):
    def test_of_programs_that_go_round(self):
        # A tick writes one sheet at most, and each round has a jump, which writes none: so there is a stop for each.
        chance = random.Random(26)
        found = 0
        for _ in range(400):
            program, stand = some_program(chance)
            n, w, rows = program
            program = (n, w, tuple(("say", row[1]) if row[0] == "take" else row for row in rows))
            try:
                told = round_of(program, stand)
            except TooMany:
                continue
            if told[0] == "round" and max(told[1:]) <= 300:
                found += 1
                self.carried_round(program, stand, told[1], told[2], chance.randint(1, 2), chance.randint(0, 1))
        self.assertGreater(found, 100)

    def carried_round(self, program, stand, lead, ring, b, s):
        """Carry one that goes round by the plan of its earliest stop."""
        n = program[0]
        written = trace(program, stand, [], lead + ring)
        word, stop, copies = ever(n, written[:lead], written[lead:], b, s)
        self.assertEqual(word, "stop")
        for t in range(-1, 3):
            many = lead + ring + n // b + n % b
            self.assertIs(shows_never(n, written[:lead], written[lead:], b, s, [t] * many), False)
        self.carried_so(program, stand, b, s, stop, copies)

    def carried_so(self, program, stand, b, s, stop, copies):
        """Carry a program by a plan: each sheet once, and it is the same run."""
        n = program[0]
        written = trace(program, stand, [], stop)
        self.assertIs(is_plan(n, written, b, s, (copies, stop)), True)
        self.assertEqual(carried_by(n, written, (copies, stop)), n)
        carried = Carried(program, stand, 2)
        carried.begin(1)
        for tick in range(stop):
            for p in [p for at, p in copies if at == tick]:
                carried.copy(p)
            carried.tick()
        self.assertLessEqual(len(carried.stop()), s)
        self.assertEqual(carried.end(), n)
        behind, said = run(program, stand, [], stop)
        self.assertEqual((carried.now(), carried.said()), (behind, [number for tick, number in said]))

    def test_fetched_behind(self):
        # A program that goes on early with no sheet, one brought behind each tick: its ticks are done when told.
        chance = random.Random(27)
        for _ in range(200):
            program, stand = some_program(chance)
            n = program[0]
            deeds = touches(program, stand, [], 15)
            order, lost, deed = least_lost(n, deeds)
            self.assertEqual(self.done_at(program, stand, order, False), fetched(n, deeds, order))
            self.assertEqual(fetched(n, deeds, order)[1], lost)
            other = chance.sample(range(n), n)
            self.assertEqual(self.done_at(program, stand, other, False), fetched(n, deeds, other))
            self.assertEqual(self.done_at(program, stand, other, True), asked_for(n, deeds, other))
            self.assertGreaterEqual(fetched(n, deeds, other)[1], lost)

    def done_at(self, program, stand, order, asking):
        """Tell at which ticks 15 deeds are done over there, and how many are lost."""
        carried = Carried(program, stand, 2)
        carried.begin(1)
        carried.stop()
        carried.early()
        ticks, tick = [], 0
        while len(ticks) < 15:
            told = carried.tick()
            if told[0] != "lacks":
                ticks.append(tick)
            for p in ([told[1]] if told[0] == "lacks" and asking else []) + order:
                try:
                    carried.bring(p)
                except MoveError:
                    continue
                break
            tick += 1
        return (ticks, tick - 15)

    def test_handed_over(self):
        for turns in range(0, 50, 7):
            book, steps = rulebook(turns)
            self.assertIs(is_two_run(book, two_run(book)), True)
            self.assertIs(is_runs_on(book, runs_on(book)), True)
            word, found = changes(book, steps)
            self.assertEqual((word, len(found)), ("fresh", turns))


if __name__ == "__main__":
    unittest.main()
