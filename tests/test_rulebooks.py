import random
import unittest

from anything import ANYTHING, NO_NUMBERS
from asking import AskingCase
from books import FIRST, HANDED, HASTY, SILENT, TWICE, chain, done, some_book, some_steps
from warmove.errors import MoveError, NoStep
from warmove.handed import is_rulebook, stand_behind

FAR = 10 ** 39
RULE = (0, 0, None, 0, None)


def with_rule(rule, old=2, new=3, letters=4):
    """Tell a rulebook's tuple of so many stands and letters, with this rule behind another one."""
    return ((True,) * old, (False,) * new, letters, (RULE, rule))


def with_part(thing, at, part):
    """Tell a tuple with another part at one place."""
    return thing[:at] + (part,) + thing[at + 1:]


class RulebookCase(AskingCase):
    def yes(self, thing):
        self.truth(True, is_rulebook, thing)

    def no(self, thing):
        self.truth(False, is_rulebook, thing)


class TestIsRulebook(RulebookCase):
    def test_some(self):
        for book in [HANDED, HASTY, SILENT, TWICE, chain(50, 25)]:
            self.yes(book)

    def test_the_least_and_the_greatest(self):
        self.yes(((True,), (False,), 0, ()))
        self.yes(((False,) * 50, (True,) * 50, 25, (RULE,) * 100))
        self.yes(((True, False) * 25, (False, True) * 25, 25, ((1, 49, 24, 49, 24), (0, 49, 24, 49, 24)) * 50))

    def test_stands(self):
        for stands in [(), (True,) * 51, [True], [True, False], (1,), (0,), (None,), ("True",), (True, 0), True, None,
                       1, "", ((True,),), ([],)]:
            self.no((stands, (True,), 0, ()))
            self.no(((True,), stands, 0, ()))

    def test_letters(self):
        for letters in range(26):
            self.yes(((True,), (True,), letters, ()))
        for letters in [-1, 26, 27, FAR, -FAR] + NO_NUMBERS:
            self.no(((True,), (True,), letters, ()))

    def test_rules(self):
        self.yes(((True,), (True,), 0, (RULE,) * 100))
        for rules in [(RULE,) * 101, [], [RULE], None, 0, True, "", RULE, ((),), ([],), (None,), (RULE, None)]:
            self.no(((True,), (True,), 0, rules))

    def test_parts_of_a_rule(self):
        for rule in [RULE[:4], RULE + (None,), list(RULE), (), (0,), None, 0, "rule", (RULE,)]:
            self.no(with_rule(rule))

    def test_house(self):
        self.yes(with_rule((0, 1, None, 1, None)))
        self.yes(with_rule((1, 2, None, 2, None)))
        for house in [-1, 2, FAR, -FAR] + NO_NUMBERS:
            self.no(with_rule((house, 0, None, 0, None)))

    def test_at_and_to_are_stands_of_the_rules_house(self):
        for house, many in [(0, 2), (1, 3)]:
            for place in (1, 3):
                rule = (house, 0, None, 0, None)
                for at in range(many):
                    self.yes(with_rule(with_part(rule, place, at)))
                for at in [-1, many, many + 1, FAR, -FAR] + NO_NUMBERS:
                    self.no(with_rule(with_part(rule, place, at)))

    def test_heard_and_said(self):
        for place in (2, 4):
            for letter in [None, 0, 1, 2, 3]:
                self.yes(with_rule(with_part(RULE, place, letter)))
            for letter in [-1, 4, 5, FAR, -FAR] + [thing for thing in NO_NUMBERS if thing is not None]:
                self.no(with_rule(with_part(RULE, place, letter)))
            self.no(with_rule(with_part(RULE, place, 0), letters=0))
            self.yes(with_rule(with_part(RULE, place, None), letters=0))
            self.no(with_rule(with_part(RULE, place, 25), letters=25))
            self.yes(with_rule(with_part(RULE, place, 24), letters=25))

    def test_of_anything(self):
        for thing in ANYTHING:
            self.no(thing)
            for at in range(4):
                self.assertIsInstance(is_rulebook(with_part(HANDED, at, thing)), bool)
            if not (type(thing) is tuple and thing and all(type(one) is bool for one in thing)):
                self.no((thing, (True,), 0, ()))
            self.no(HANDED[:3] + ((thing,),))
        for many in (0, 1, 2, 3):
            self.no(HANDED[:many])
        self.no(HANDED + (0,))
        self.no(list(HANDED))


class TestStandBehind(AskingCase):
    def told(self, book, steps, answer):
        told = self.asked(stand_behind, book, steps)
        self.assertEqual(told, answer)
        self.assertEqual([type(told)] + [type(part) for part in told], [tuple, int, int, tuple, tuple])

    def refused(self, book, steps):
        before = list(steps)
        for _ in range(2):
            with self.assertRaises(NoStep) as caught:
                stand_behind(book, steps)
            self.assertIsInstance(caught.exception, MoveError)
            self.assertEqual(steps, before)

    def test_no_steps(self):
        for book in [HANDED, HASTY, ((True,), (True,), 0, ())]:
            self.told(book, [], (0, 0, (), ()))

    def test_some_steps(self):
        self.told(HANDED, [0], (1, 0, (0,), ()))
        self.told(HANDED, [0, 1], (1, 1, (0,), ()))
        self.told(HANDED, [0, 1, 2], (1, 2, (0,), (0,)))
        self.told(HANDED, [0, 1, 2, 3], (2, 2, (0,), (0,)))

    def test_letters_stand_rising_and_once(self):
        rules = tuple((house, 0, None, 0, letter) for house in (0, 1) for letter in range(4))
        book = ((True,), (False,), 4, rules)
        self.told(book, [2, 0, 3, 0, 2], (0, 0, (0, 2, 3), ()))
        self.told(book, [7, 4, 1, 7, 4], (0, 0, (1,), (0, 3)))

    def test_letters_heard_late_and_again(self):
        # Said ahead of three other steps, heard behind them, and once more; one's own letters are not heard.
        rules = ((0, 0, None, 1, 0), (0, 1, None, 1, None), (1, 0, 0, 1, None), (1, 1, 0, 0, 1), (0, 1, 1, 0, None))
        book = ((True, False), (False, True), 2, rules)
        self.told(book, [0, 1, 1, 1, 2], (1, 1, (0,), ()))
        self.told(book, [0, 1, 2, 3, 2, 3, 2], (1, 1, (0,), (1,)))
        self.told(book, [0, 2, 3, 4, 0, 4, 0], (1, 0, (0,), (1,)))

    def test_a_letter_that_only_the_house_itself_has_said(self):
        book = ((True,), (True,), 2, ((0, 0, None, 0, 0), (0, 0, 0, 0, 1), (1, 0, 0, 0, 0), (1, 0, 1, 0, None)))
        self.refused(book, [0, 1])
        self.refused(book, [0, 3])
        self.told(book, [0, 2, 1], (0, 0, (0, 1), (0,)))

    def test_no_number_of_a_rule(self):
        for step in NO_NUMBERS + [-1, 4, 5, FAR, -FAR, "", [[]], (0, 1)]:
            self.refused(HANDED, [step])
            self.refused(HANDED, [0, 1, step])
            self.refused(HANDED, [step, 0])
        self.refused(((True,), (True,), 0, ()), [0])

    def test_anything_as_a_step(self):
        for step in ANYTHING:
            if not (type(step) is int and 0 <= step < 4):
                self.refused(HANDED, [0, step])

    def test_one_that_cannot_be_done_where_it_comes(self):
        for steps in [[1], [2], [3], [0, 0], [0, 2], [0, 3], [0, 1, 1], [0, 1, 2, 3, 3]]:
            self.refused(HANDED, steps)

    def test_many_steps(self):
        book = ((True,), (False,), 1, ((0, 0, None, 0, 0), (1, 0, 0, 0, None)))
        self.told(book, [0, 1] * 1000, (0, 0, (0,), ()))
        self.refused(book, [0] * 1999 + [2])

    def test_by_chance(self):
        chance = random.Random(15)
        refused = 0
        for _ in range(1500):
            book = some_book(chance)
            self.assertIs(is_rulebook(book), True)
            steps = some_steps(chance, book, chance.randrange(9))
            if chance.randrange(3) == 0:
                steps.insert(chance.randint(0, len(steps)), chance.randint(0, 6))
            state = FIRST
            for step in steps:
                if state is not None:
                    state = done(book, state, book[3][step]) if step < len(book[3]) else None
            if state is None:
                refused += 1
                self.refused(book, steps)
            else:
                self.told(book, steps, state)
        self.assertGreater(refused, 200)

    def test_by_their_names_in_another_order(self):
        self.assertIs(is_rulebook(thing=HANDED), True)
        self.assertEqual(stand_behind(steps=[0], book=HANDED), (1, 0, (0,), ()))


if __name__ == "__main__":
    unittest.main()
