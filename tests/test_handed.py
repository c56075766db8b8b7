import random
import unittest

from anything import ANYTHING, NO_NUMBERS
from asking import AskingCase
from books import (
    FIRST, HANDED, HASTY, SILENT, TWICE, all_states, behind, chain, done, grid, running, some_book, some_steps,
)
from warmove.errors import MoveError, NoStep, TooMany
from warmove.handed import (
    changes, is_rulebook, is_runs_on, is_two_run, rulebook, runs_on, stand_behind, two_run,
)

FAR = 10 ** 39


def spread(old, new):
    """Tell a rulebook with one state, and as many rules that can't be done as bounds let."""
    return ((True,) * old, (False,) * new, 1, ((0, 0, 0, 0, None),) * 100)


def loosened(chance, book):
    """Tell a rulebook some of whose rules hear or say nothing any more."""
    rules = []
    for house, at, heard, to, said in book[3]:
        heard, said = [chance.choice([letter, letter, letter, None]) for letter in (heard, said)]
        rules.append((house, at, heard, to, said))
    return book[:3] + (tuple(rules),)


class HandedCase(AskingCase):
    def two(self, book, limit=200):
        """Look over whether two ever run, and tell the word."""
        told = self.asked(two_run, book, limit)
        self.assertEqual([type(told), len(told), type(told[1])], [tuple, 2, list])
        states = all_states(book)
        if told[0] == "two":
            self.whole(*told[1])
            self.assertLessEqual(len(told[1]), 2000)
            self.assertEqual(running(book, stand_behind(book, told[1])), 2)
        else:
            self.assertEqual(told[0], "never")
            self.assertFalse([state for state in states if running(book, state) == 2])
            self.assertEqual(len(told[1]), len(set(told[1])))
            self.assertTrue(states.issubset(set(told[1])))
        self.truth(True, is_two_run, book, told)
        return told[0]

    def on(self, book, limit=200):
        """Look over whether it always runs on, and tell the word."""
        told = self.asked(runs_on, book, limit)
        self.assertIs(type(told), tuple)
        stuck = [state for state in all_states(book) if not any(running(book, one) for one in all_states(book, state))]
        if told[0] == "on":
            self.assertEqual((stuck, len(told), type(told[1])), ([], 2, list))
            numbers = dict(told[1])
            self.assertEqual(len(numbers), len(told[1]))
            self.assertTrue(all_states(book).issubset(numbers))
            self.whole(*numbers.values())
            for state, number in told[1]:
                self.assertEqual(number == 0, running(book, state) > 0)
                if number:
                    self.assertGreater(number, 0)
                    self.assertLess(min(numbers[other] for other in behind(book, state)), number)
        else:
            word, steps, states = told
            self.assertEqual((word, type(steps), type(states)), ("still", list, list))
            self.assertIn(stand_behind(book, steps), stuck)
            self.assertFalse([state for state in states if running(book, state)])
            self.assertTrue(all_states(book, stand_behind(book, steps)).issubset(set(states)))
        self.truth(True, is_runs_on, book, told)
        return told[0]

    def too_many(self, *handed):
        for ask in (two_run, runs_on):
            with self.assertRaises(TooMany) as caught:
                ask(*handed)
            self.assertIsInstance(caught.exception, MoveError)


class TestTwoRun(HandedCase):
    def test_never(self):
        for book in [HANDED, SILENT, chain(9), ((False,), (True,), 0, ())]:
            self.assertEqual(self.two(book), "never")

    def test_two(self):
        for book in [HASTY, TWICE, ((True,), (True,), 0, ())]:
            self.assertEqual(self.two(book), "two")
        self.assertEqual(two_run(((True,), (True,), 0, ())), ("two", []))

    def test_only_far_off(self):
        # Both go on by themselves, and two run at their last stands only.
        far = grid(10, 10)
        book = ((False,) * 9 + (True,), (False,) * 9 + (True,), 0, far[3])
        self.assertEqual(self.two(book), "two")
        self.assertEqual(len(two_run(book)[1]), 18)

    def test_by_chance(self):
        chance = random.Random(16)
        words = []
        for _ in range(500):
            book = some_book(chance)
            words.append(self.two(book))
        self.assertGreater(words.count("never"), 80)
        self.assertGreater(words.count("two"), 80)


class TestRunsOn(HandedCase):
    def test_on(self):
        for book in [HANDED, HASTY, chain(9), ((True,), (True,), 0, ())]:
            self.assertEqual(self.on(book), "on")

    def test_still(self):
        for book in [SILENT, ((False,), (False,), 0, ()), ((False, False), (False,), 0, ((0, 0, None, 1, None),))]:
            self.assertEqual(self.on(book), "still")
        self.assertEqual(runs_on(((False,), (False,), 0, ())), ("still", [], [FIRST]))

    def test_many_steps_till_it_runs(self):
        rules = chain(50)[3]
        self.assertEqual(self.on(((False,) * 49 + (True,), (False,), 0, rules)), "on")
        self.assertEqual(self.on(((True,) + (False,) * 49, (False,), 0, rules)), "still")

    def test_one_way_leads_on_and_one_does_not(self):
        rules = ((0, 0, None, 1, None), (0, 0, None, 2, None), (0, 1, None, 0, None))
        self.assertEqual(self.on(((False, True, False), (False,), 0, rules)), "still")
        self.assertEqual(self.on(((False, True, False), (False,), 0, rules[:1] + rules[2:])), "on")

    def test_round_and_round_without_running(self):
        rules = ((0, 0, None, 1, None), (0, 1, None, 2, None), (0, 2, None, 1, None))
        self.assertEqual(self.on(((True, False, False), (False,), 0, rules)), "still")

    def test_by_chance(self):
        chance = random.Random(17)
        words = [self.on(some_book(chance)) for _ in range(500)]
        self.assertGreater(words.count("on"), 80)
        self.assertGreater(words.count("still"), 80)


class TestLimit(HandedCase):
    def test_just_as_many_and_one_more(self):
        for book, many in [(chain(1), 1), (chain(2), 2), (chain(50), 50), (grid(7, 9), 63), (spread(9, 9), 1)]:
            self.assertEqual(len(all_states(book)), many)
            for limit in (many, many + 1, 1000):
                self.assertEqual((self.two(book, limit), self.on(book, limit)), ("never", "on"))
            if many > 1:
                self.too_many(book, many - 1)

    def test_left_out(self):
        self.assertEqual(len(two_run(grid(20, 10))[1]), 200)
        self.assertEqual(len(runs_on(grid(20, 10))[1]), 200)
        self.too_many(grid(3, 67))
        self.assertEqual(len(two_run(grid(3, 67), 201)[1]), 201)
        self.assertEqual(len(runs_on(grid(3, 67), 201)[1]), 201)

    def test_of_1000(self):
        for ask, judge, word in [(two_run, is_two_run, "never"), (runs_on, is_runs_on, "on")]:
            told = self.asked(ask, grid(25, 40), 1000)
            self.assertEqual((told[0], len(told[1])), (word, 1000))
            self.truth(True, judge, grid(25, 40), told)
        self.too_many(grid(25, 40), 999)
        self.too_many(grid(50, 50), 1000)

    def test_refused_where_two_run_soon(self):
        # Too many states are too many, also where two run at first, or where it stands still soon.
        book = grid(7, 9)
        self.too_many(((True,) * 7, (True,) * 9, 0, book[3]), 62)
        self.too_many(((False,) * 7, (False,) * 9, 0, book[3]), 62)
        self.assertEqual(self.two(((True,) * 7, (True,) * 9, 0, book[3]), 63), "two")
        self.assertEqual(self.on(((False,) * 7, (False,) * 9, 0, book[3]), 63), "still")

    def test_letters_make_states(self):
        # Each of 12 letters said or not: 4096 states.
        self.too_many(((True,), (False,), 12, tuple((0, 0, None, 0, letter) for letter in range(12))), 1000)
        self.assertEqual(
            len(two_run(((True,), (False,), 7, tuple((0, 0, None, 0, letter) for letter in range(7))))[1]), 128
        )


class TestIsTwoRun(HandedCase):
    def no(self, book, thing):
        self.truth(False, is_two_run, book, thing)

    def test_a_list_that_closes(self):
        states = sorted(all_states(HANDED))
        self.truth(True, is_two_run, HANDED, ("never", states))
        self.truth(True, is_two_run, HANDED, ("never", states[::-1]))
        for state in states:
            self.no(HANDED, ("never", [other for other in states if other != state]))
            self.no(HANDED, ("never", states + [state]))

    def test_states_to_which_no_steps_lead(self):
        states = sorted(all_states(HANDED))
        # No rule can be done there.
        self.truth(True, is_two_run, HANDED, ("never", states + [(1, 0, (), ())]))
        # Rule 1 can be done there, and (2, 1, (0,), ()) is not among them; two run in that.
        self.no(HANDED, ("never", states + [(2, 0, (0,), ())]))
        self.no(HANDED, ("never", states + [(2, 1, (), ())]))
        self.no(HANDED, ("never", states + [(0, 1, (), ())]))

    def test_two_run_in_one_of_them(self):
        self.no(HASTY, ("never", sorted(all_states(HASTY))))

    def test_not_the_first_one(self):
        self.no(HANDED, ("never", []))
        self.no(HANDED, ("never", [(1, 0, (), ())]))
        self.truth(True, is_two_run, ((True,), (False,), 0, ()), ("never", [FIRST]))

    def test_things_that_are_no_states(self):
        book = ((True, False), (False, True), 3, ())
        self.truth(True, is_two_run, book, ("never", [FIRST, (1, 1, (0, 2), (0, 1, 2))]))
        for state in [
            (2, 0, (), ()), (0, 2, (), ()), (-1, 0, (), ()), (1, -1, (), ()), (0, FAR, (), ()), (FAR, 0, (), ()),
            (1, 0, (3,), ()), (1, 0, (), (3,)), (1, 0, (-1,), ()), (1, 0, (1, 0), ()), (1, 0, (), (2, 1)),
            (1, 0, (1, 1), ()), (1, 0, (), (0, 0)), (1, 0, (FAR,), ()), (1, 0, [], ()), (1, 0, (), []),
            (1, 0, [0], ()), (1, 0, ()), (1, 0, (), (), ()), [1, 0, (), ()], (True, 0, (), ()), (1, False, (), ()),
            (1, 0, (True,), ()), (1, 0, (), (False,)), (1, 0, None, ()), (1, 0, 0, ()), (1, None, (), ()),
            ("1", 0, (), ()), (1, 0, "", ""), (1, 0, ("0",), ()), (1, 0, ((),), ()), (1, 0, (), ([],)),
        ]:
            self.no(book, ("never", [FIRST, state]))
            self.no(book, ("never", [state, FIRST]))
        self.no(book, ("never", [(False, False, (), ())]))
        self.no(book, ("never", [FIRST, (False, False, (), ())]))

    def test_two(self):
        self.truth(True, is_two_run, HASTY, ("two", [1]))
        self.truth(True, is_two_run, TWICE, ("two", two_run(TWICE)[1]))
        for steps in [[], [0], [0, 1], [1, 0], [1, 1], [2], [-1], [True], [FAR], [None], ["1"], [[1]], [(1,)]]:
            self.no(HASTY, ("two", steps))
        self.truth(True, is_two_run, ((True,), (True,), 0, ()), ("two", []))

    def test_wrong_shapes(self):
        states = sorted(all_states(HANDED))
        for thing in [
            ("never",), ("never", states, states), ["never", states], ("never", tuple(states)), ("Never", states),
            ("two", states), ("", states), (states, "never"), ("on", states), (None, states), "never", states, None,
            ("never", None), ("never", "never"), ("never", 0), ("never", [states]), (True, states),
        ]:
            self.no(HANDED, thing)
        for thing in [("two", (1,)), ["two", [1]], ("two", 1), ("two", [1], []), ("two",), ("TWO", [1]), ("never", [1])]:
            self.no(HASTY, thing)

    def test_of_anything(self):
        for thing in ANYTHING:
            for book in (HANDED, TWICE):
                for other in [thing, ("never", thing), ("two", thing), ("never", [thing]), ("never", [FIRST, thing]),
                              (thing, [FIRST]), ("two", [thing, thing]), ("never", [(0, 0, thing, ())])]:
                    self.no(book, other)

    def test_many(self):
        book = grid(40, 50)
        states = sorted(all_states(book))
        self.assertEqual(len(states), 2000)
        self.truth(True, is_two_run, book, ("never", states))
        self.no(book, ("never", states[:-1]))


class TestIsRunsOn(HandedCase):
    def no(self, book, thing):
        self.truth(False, is_runs_on, book, thing)

    def yes(self, book, thing):
        self.truth(True, is_runs_on, book, thing)

    def test_numbers(self):
        right = runs_on(HANDED)[1]
        self.yes(HANDED, ("on", right))
        self.yes(HANDED, ("on", right[::-1]))
        self.yes(HANDED, ("on", [(state, 7 * number) for state, number in right]))
        self.yes(HANDED, ("on", [(state, FAR * number) for state, number in right]))
        for at, (state, number) in enumerate(right):
            wrong = [-1, 1, FAR, -FAR] if number == 0 else [0, -1, -FAR]
            for other in wrong + NO_NUMBERS:
                self.no(HANDED, ("on", right[:at] + [(state, other)] + right[at + 1:]))
            self.no(HANDED, ("on", right[:at] + right[at + 1:]))
            self.no(HANDED, ("on", right + [(state, number)]))
            self.no(HANDED, ("on", right + [(state, number + 1)]))

    def test_no_smaller_number_comes(self):
        rules = chain(4)[3]
        book = ((False, False, False, True), (False,), 0, rules)
        for numbers, answer in [((3, 2, 1, 0), True), ((9, 5, 1, 0), True), ((2, 2, 1, 0), False),
                                ((3, 1, 1, 0), False), ((3, 4, 1, 0), False), ((1, 2, 1, 0), False)]:
            some = [((at, 0, (), ()), number) for at, number in enumerate(numbers)]
            self.truth(answer, is_runs_on, book, ("on", some))

    def test_states_to_which_no_steps_lead(self):
        right = runs_on(HANDED)[1]
        self.yes(HANDED, ("on", right + [((2, 0, (), ()), 0)]))
        self.no(HANDED, ("on", right + [((1, 0, (), ()), 1)]))
        self.no(HANDED, ("on", right + [((1, 0, (), ()), 0)]))
        self.no(HANDED, ("on", right + [((2, 0, (0,), ()), 0)]))

    def test_things_that_are_no_states(self):
        right = runs_on(HANDED)[1]
        for pair in [((3, 0, (), ()), 0), ((2, 0, (1,), ()), 0), ((True, 0, (), ()), 0), ([2, 0, (), ()], 0), (None, 0),
                     ((2, 0, (), ()),), ((2, 0, (), ()), 0, 0), [(2, 0, (), ()), 0], (2, 0, (), ()), 0, None, "on"]:
            self.no(HANDED, ("on", right + [pair]))

    def test_still(self):
        self.yes(SILENT, ("still", [0], [(1, 0, (), ())]))
        for steps, states in [
            ([], [(1, 0, (), ())]), ([0], []), ([0], [FIRST]), ([0], [FIRST, (1, 0, (), ())]), ([], [FIRST]),
            ([0], [(1, 0, (), ())] * 2), ([0, 0], [(1, 0, (), ())]), ([1], [(1, 0, (), ())]),
            ([False], [(1, 0, (), ())]), ([None], [(1, 0, (), ())]), ([0], [(1, 0, (), ()), (0, 1, (), ())]),
            ([0], [(1, 0, (), ()), (2, 0, (), ())]), ([0], [(1, 0, (0,), ())]), ([0], [(1, False, (), ())]),
        ]:
            self.no(SILENT, ("still", steps, states))

    def test_still_with_more_states(self):
        rules = ((0, 0, None, 1, None), (0, 1, None, 2, None), (0, 2, None, 1, None), (1, 0, None, 1, None))
        book = ((True, False, False), (False, False), 0, rules)
        stuck = sorted(all_states(book, (1, 0, (), ())))
        self.yes(book, ("still", [0], stuck))
        self.yes(book, ("still", [3, 0, 1, 2], stuck))
        self.yes(book, ("still", [3, 0], [state for state in stuck if state[1] == 1]))
        self.no(book, ("still", [0], [state for state in stuck if state[1] == 1]))
        for state in stuck:
            self.no(book, ("still", [0], [other for other in stuck if other != state]))

    def test_on_where_it_stands_still(self):
        for number in (0, 1, 2):
            self.no(SILENT, ("on", [(FIRST, 0), ((1, 0, (), ()), number)]))
        self.no(SILENT, ("on", [(FIRST, 0)]))

    def test_wrong_shapes(self):
        right = runs_on(HANDED)[1]
        for thing in [
            ("on",), ("on", right, right), ["on", right], ("on", tuple(right)), ("On", right), ("still", right),
            ("never", right), (right, "on"), "on", right, None, ("on", None), ("on", [state for state, number in right]),
            ("on", [list(pair) for pair in right]), ("still", [], right), ("on", []),
        ]:
            self.no(HANDED, thing)
        stuck = [(1, 0, (), ())]
        for thing in [("still", [0]), ("still", (0,), stuck), ("still", [0], tuple(stuck)), ["still", [0], stuck],
                      ("still", stuck, [0]), ("on", [0], stuck), ("still", [0], stuck, []), ("still", 0, stuck),
                      ("still", None, stuck), ("still", [0], None), ("still", [0], [None])]:
            self.no(SILENT, thing)

    def test_of_anything(self):
        for thing in ANYTHING:
            for other in [thing, ("on", thing), ("still", thing, thing), ("still", [0], thing), ("on", [thing]),
                          ("on", [(FIRST, 0), thing]), ("on", [(thing, 0)]), ("still", [0], [thing]),
                          ("still", [thing], [FIRST]), (thing, [(FIRST, 0)])]:
                self.no(SILENT, other)

    def test_many(self):
        book = grid(40, 50)
        some = [(state, 0) for state in sorted(all_states(book))]
        self.yes(book, ("on", some))
        self.no(book, ("on", some[1:]))


class TestChanges(HandedCase):
    def told(self, book, steps):
        """Look over what is told of steps, and tell it."""
        told = self.asked(changes, book, steps)
        self.assertEqual([type(told), len(told), type(told[1])], [tuple, 2, list])
        if told[0] == "two":
            self.assertEqual(running(book, stand_behind(book, told[1])), 2)
            return told
        self.assertEqual(told[0], "fresh")
        states = [FIRST]
        for step in steps:
            states.append(done(book, states[-1], book[3][step]))
        self.assertLess(max(running(book, state) for state in states), 2)
        found = []
        for i in range(len(states)):
            for j in range(i + 1, len(states)):
                for house in (0, 1):
                    here = book[house][states[i][house]] and book[1 - house][states[j][1 - house]]
                    if here and not any(running(book, state) for state in states[i + 1:j]):
                        found.append((i, j, house))
        self.assertEqual([change[:3] for change in told[1]], found)
        for change in told[1]:
            self.assertIs(type(change), tuple)
            self.whole(*change)
            i, j, house, letter = change
            self.assertIn(letter, set(states[j][2 + house]) - set(states[i][2 + house]))
        for house in (0, 1):
            letters = [change[3] for change in told[1] if change[2] == house]
            self.assertEqual(len(letters), len(set(letters)))
        return told

    def test_no_steps(self):
        self.assertEqual(self.told(HANDED, []), ("fresh", []))
        self.assertEqual(self.told(((False,), (False,), 0, ()), []), ("fresh", []))
        self.assertEqual(self.told(((True,), (True,), 0, ()), []), ("two", []))

    def test_fresh(self):
        self.assertEqual(self.told(HANDED, [0]), ("fresh", []))
        self.assertEqual(self.told(HANDED, [0, 1]), ("fresh", [(0, 2, 0, 0)]))
        self.assertEqual(self.told(HANDED, [0, 1, 2]), ("fresh", [(0, 2, 0, 0)]))
        self.assertEqual(self.told(HANDED, [0, 1, 2, 3]), ("fresh", [(0, 2, 0, 0), (2, 4, 1, 0)]))

    def test_any_of_several_letters(self):
        rules = ((0, 0, None, 1, 2), (0, 1, None, 1, 0), (0, 0, None, 0, 1), (1, 0, 2, 1, None))
        book = ((True, False), (False, True), 3, rules)
        word, told = self.told(book, [2, 0, 1, 3])
        self.assertEqual([change[:3] for change in told], [(1, 4, 0)])
        self.assertIn(told[0][3], (0, 2))

    def test_back_at_the_same_house_is_no_change(self):
        rules = ((0, 0, None, 1, 0), (0, 1, None, 0, None), (1, 0, 0, 1, None))
        book = ((True, False), (False, True), 1, rules)
        self.assertEqual(self.told(book, [0, 1]), ("fresh", []))
        # The letter was said ahead, so what seems a change shows two.
        self.assertEqual(self.told(book, [0, 1, 0, 2])[0], "two")
        self.assertEqual(self.told(book, [0, 2]), ("fresh", [(0, 2, 0, 0)]))

    def test_two_behind_some_of_the_steps(self):
        self.assertEqual(self.told(HASTY, [1])[0], "two")
        self.assertEqual(self.told(HASTY, [1, 0])[0], "two")

    def test_a_change_without_a_letter(self):
        self.assertEqual(self.told(HASTY, [0])[0], "fresh")
        # Old said a letter, so this one is fresh, though two may run by other steps.
        self.assertEqual(self.told(HASTY, [0, 1]), ("fresh", [(0, 2, 0, 0)]))
        dumb = HASTY[:2] + (0, ((0, 0, None, 1, None), (1, 0, None, 1, None)))
        self.assertEqual(self.told(dumb, [0, 1]), ("two", [1]))

    def test_a_later_change_without_a_new_letter(self):
        self.assertEqual(self.told(TWICE, [0, 1])[0], "fresh")
        self.assertEqual(self.told(TWICE, [0, 1, 2, 3]), ("fresh", [(0, 2, 0, 0), (2, 4, 1, 0)]))
        word, steps = self.told(TWICE, [0, 1, 2, 3, 0, 1])
        self.assertEqual((word, steps), ("two", [0, 1, 2, 3, 1]))

    def test_no_step(self):
        for step in NO_NUMBERS + [-1, 4, FAR, -FAR, 0]:
            with self.assertRaises(NoStep):
                changes(HANDED, [0, step])
        # One that can't be done is refused, also behind steps behind which two run.
        for steps in [[1, 1], [1, 2], [1, None], [1, True]]:
            with self.assertRaises(NoStep):
                changes(HASTY, steps)

    def test_by_chance(self):
        chance = random.Random(18)
        seen = []
        for _ in range(3000):
            book = loosened(chance, rulebook(5)[0]) if chance.randrange(3) else some_book(chance, 3, 3, 9)
            word, told = self.told(book, some_steps(chance, book, chance.randint(0, 12)))
            seen.append((word, min(len(told), 3)))
        for one in [(word, many) for word in ("fresh", "two") for many in range(4)]:
            self.assertIn(one, seen)

    def test_2000_steps(self):
        book = ((True,), (False,), 0, ((0, 0, None, 0, None),))
        self.assertEqual(self.asked(changes, book, [0] * 2000), ("fresh", []))


class TestRulebook(HandedCase):
    def test_all_turns(self):
        for turns in range(50):
            told = self.asked(rulebook, turns)
            self.assertEqual([type(told), len(told), type(told[1])], [tuple, 2, list])
            book, steps = told
            self.truth(True, is_rulebook, book)
            self.assertEqual(book[2], (turns + 1) // 2)
            self.assertLessEqual(len(all_states(book)), 200)
            self.assertIs(book[0][0], True)
            self.assertIs(book[1][0], False)
            self.assertEqual(two_run(book)[0], "never")
            self.assertEqual(runs_on(book)[0], "on")
            self.truth(True, is_two_run, book, two_run(book))
            self.truth(True, is_runs_on, book, runs_on(book))
            word, found = changes(book, steps)
            self.assertEqual((word, len(found)), ("fresh", turns))

    def test_somewhat_beyond_the_bound(self):
        rulebook(50)
        rulebook(-1)


class TestHandedIn(HandedCase):
    def test_by_their_names_in_another_order(self):
        self.assertEqual(two_run(limit=5, book=HANDED), two_run(HANDED, 5))
        self.assertEqual(runs_on(limit=5, book=HANDED), runs_on(HANDED))
        for ask in (two_run, runs_on):
            with self.assertRaises(TooMany):
                ask(limit=4, book=HANDED)
        self.assertIs(is_two_run(thing=two_run(HANDED), book=HANDED), True)
        self.assertIs(is_runs_on(thing=runs_on(HANDED), book=HANDED), True)
        self.assertEqual(changes(steps=[0, 1], book=HANDED), ("fresh", [(0, 2, 0, 0)]))
        self.assertEqual(rulebook(turns=3), rulebook(3))

    def test_steps_are_not_kept(self):
        steps = [1]
        told = changes(HASTY, steps)
        steps.append(0)
        self.assertEqual(told, ("two", [1]))
        told[1].clear()
        self.assertEqual(steps, [1, 0])


if __name__ == "__main__":
    unittest.main()
