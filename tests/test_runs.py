import copy
import random
import unittest

from warmove.runs import run, touches, trace
from warmove.ticks import tick

# It says the double of each letter, and then waits for the next one.
DOUBLES = (1, 10, (("take", 0), ("add", 0, 0), ("say", 0), ("set", 0, 0), ("jump", 0, 0)))
# It adds what two letters bring, says it, and ends at its third row behind the takes.
SUM = (3, 10, (("take", 2), ("take", 0), ("add", 2, 0), ("say", 2), ("end",), ("say", 0)))
# It counts for ever on the first sheet, and says each number.
COUNTS = (3, 100, (("add", 0, 1), ("say", 0), ("jump", 2, 0)))
COUNTS_START = (0, (0, 1, 0))
NO_TOUCH = ((), ())


def expected(program, stand, letters, many):
    """Tell by single ticks the stand, what was said, the touches, and the letters that lie there behind."""
    said, touched = [], []
    ahead, lying = list(letters), []
    for now in range(many):
        lying += [number for at, number in ahead if at == now]
        stand, word, number, reads, writes = tick(program, stand, list(lying))
        if word == "took":
            lying = lying[1:]
        if word == "said":
            said.append((now, number))
        touched.append((reads, writes))
    return stand, said, touched, lying


def some_program(chance):
    n, w, many = chance.randint(1, 4), chance.randint(2, 7), chance.randint(1, 8)

    def row():
        p = chance.randrange(n)
        return chance.choice([
            ("set", p, chance.randrange(w)), ("add", p, chance.randrange(n)), ("jump", p, chance.randrange(many)),
            ("say", p), ("say", p), ("take", p), ("take", p), ("end",),
        ])

    program = (n, w, tuple(row() for _ in range(many)))
    stand = (chance.randint(0, many), tuple(chance.randrange(w) for _ in range(n)))
    letters = sorted((chance.randrange(14) for _ in range(chance.randrange(9))))
    return program, stand, [(at, chance.randrange(w)) for at in letters]


class RunCase(unittest.TestCase):
    def told(self, program, stand, letters, many, behind, said, touched):
        """Look over all three answers, twice, and that the letters stay as they are."""
        lying = list(letters)
        for _ in range(2):
            told = run(program, stand, lying, many)
            self.assertIs(type(told), tuple)
            self.assertIs(type(told[1]), list)
            self.assertEqual(told, (behind, said))
            self.assertEqual(touches(program, stand, lying, many), touched)
            self.assertEqual(trace(program, stand, lying, many), [writes for reads, writes in touched])
            self.assertEqual(lying, letters)


class TestHowMany(RunCase):
    def test_no_tick(self):
        self.told(DOUBLES, (0, (4,)), [], 0, (0, (4,)), [], [])
        self.told(DOUBLES, (2, (4,)), [(0, 1)], 0, (2, (4,)), [], [])
        self.told(DOUBLES, (5, (4,)), [], 0, (5, (4,)), [], [])

    def test_one_tick_of_each_kind(self):
        self.told(DOUBLES, (0, (4,)), [], 1, (0, (4,)), [], [NO_TOUCH])
        self.told(DOUBLES, (0, (4,)), [(0, 7)], 1, (1, (7,)), [], [((), (0,))])
        self.told(DOUBLES, (1, (4,)), [], 1, (2, (8,)), [], [((0,), (0,))])
        self.told(DOUBLES, (2, (4,)), [], 1, (3, (4,)), [(0, 4)], [((0,), ())])
        self.told(DOUBLES, (3, (4,)), [], 1, (4, (0,)), [], [((), (0,))])
        self.told(DOUBLES, (4, (0,)), [], 1, (0, (0,)), [], [((0,), ())])
        self.told(DOUBLES, (4, (4,)), [], 1, (5, (4,)), [], [((0,), ())])
        self.told(DOUBLES, (5, (4,)), [], 1, (5, (4,)), [], [NO_TOUCH])

    def test_2000_ticks(self):
        # 666 times three ticks, and two more.
        said = [(3 * k + 1, (k + 1) % 100) for k in range(667)]
        touched = ([((0, 1), (0,)), ((0,), ()), ((2,), ())] * 667)[:2000]
        self.told(COUNTS, COUNTS_START, [], 2000, (2, (67, 1, 0)), said, touched)

    def test_2000_ticks_with_a_letter_at_each(self):
        letters = [(at, at % 10) for at in range(2000)]
        said = [(5 * k + 2, 2 * k % 10) for k in range(400)]
        touched = [((), (0,)), ((0,), (0,)), ((0,), ()), ((), (0,)), ((0,), ())] * 400
        self.told(DOUBLES, (0, (0,)), letters, 2000, (0, (0,)), said, touched)

    def test_says_0(self):
        self.told(DOUBLES, (2, (0,)), [], 1, (3, (0,)), [(0, 0)], [((0,), ())])


class TestNothingDone(RunCase):
    def test_ticks_go_by_where_it_waits(self):
        self.told(DOUBLES, (0, (4,)), [], 5, (0, (4,)), [], [NO_TOUCH] * 5)
        self.told(DOUBLES, (0, (4,)), [], 2000, (0, (4,)), [], [NO_TOUCH] * 2000)

    def test_ticks_go_by_where_it_has_ended(self):
        self.told(SUM, (4, (1, 2, 3)), [], 4, (4, (1, 2, 3)), [], [NO_TOUCH] * 4)
        self.told(SUM, (6, (1, 2, 3)), [(0, 1)], 4, (6, (1, 2, 3)), [], [NO_TOUCH] * 4)
        self.told(SUM, (3, (1, 2, 3)), [], 2000, (4, (1, 2, 3)), [(0, 3)], [((2,), ())] + [NO_TOUCH] * 1999)

    def test_behind_the_last_row(self):
        self.told(SUM, (5, (1, 2, 3)), [], 3, (6, (1, 2, 3)), [(0, 1)], [((0,), ()), NO_TOUCH, NO_TOUCH])

    def test_waiting_ahead_of_what_is_said(self):
        touched = [NO_TOUCH, NO_TOUCH, ((), (0,)), ((0,), (0,)), ((0,), ())]
        self.told(DOUBLES, (0, (4,)), [(2, 3)], 5, (3, (6,)), [(4, 6)], touched)


class TestLetters(RunCase):
    def test_at_one_tick_in_their_order(self):
        touched = [((), (2,)), ((), (0,)), ((0, 2), (2,)), ((2,), ())]
        self.told(SUM, (0, (0, 0, 0)), [(0, 3), (0, 4)], 4, (4, (4, 0, 7)), [(3, 7)], touched)
        self.told(SUM, (0, (0, 0, 0)), [(0, 4), (0, 3)], 4, (4, (3, 0, 7)), [(3, 7)], touched)
        self.told(SUM, (0, (0, 0, 0)), [(0, 4), (0, 3), (0, 9)], 2, (2, (3, 0, 4)), [], touched[:2])

    def test_lies_there_from_its_tick_on(self):
        for at in range(6):
            touched = [NO_TOUCH] * at + [((), (0,))] + [((0,), (0,))]
            self.told(DOUBLES, (0, (4,)), [(at, 7)], at + 2, (2, (4,)), [], touched)

    def test_not_a_tick_ahead(self):
        for at in range(1, 6):
            self.told(DOUBLES, (0, (4,)), [(at, 7)], at, (0, (4,)), [], [NO_TOUCH] * at)

    def test_while_it_waits_between_two(self):
        touched = [NO_TOUCH, ((), (2,)), NO_TOUCH, NO_TOUCH, ((), (0,)), ((0, 2), (2,)), ((2,), ()), NO_TOUCH]
        self.told(SUM, (0, (0, 0, 0)), [(1, 8), (4, 6)], 8, (4, (6, 0, 4)), [(6, 4)], touched)

    def test_while_it_does_other_things_it_lies_there(self):
        # The second letter comes at the tick behind the first one's taking, and is taken four ticks later.
        said = [(2, 2), (7, 4)]
        self.assertEqual(run(DOUBLES, (0, (0,)), [(0, 1), (1, 2)], 8), ((3, (4,)), said))
        self.assertEqual(run(DOUBLES, (0, (0,)), [(0, 1), (5, 2)], 8), ((3, (4,)), said))
        self.assertEqual(run(DOUBLES, (0, (0,)), [(0, 1), (6, 2)], 8), ((2, (4,)), said[:1]))

    def test_behind_the_last_tick(self):
        self.told(DOUBLES, (0, (4,)), [(3, 7)], 3, (0, (4,)), [], [NO_TOUCH] * 3)
        self.told(DOUBLES, (0, (4,)), [(0, 7), (9, 1), (10 ** 59, 2)], 1, (1, (7,)), [], [((), (0,))])
        self.told(DOUBLES, (0, (4,)), [(2000, 7)], 2000, (0, (4,)), [], [NO_TOUCH] * 2000)
        self.told(DOUBLES, (0, (4,)), [(1999, 7)], 2000, (1, (7,)), [], [NO_TOUCH] * 1999 + [((), (0,))])

    def test_the_letter_0_is_a_letter(self):
        self.told(DOUBLES, (0, (4,)), [(0, 0)], 3, (3, (0,)), [(2, 0)], [((), (0,)), ((0,), (0,)), ((0,), ())])

    def test_left_where_it_has_ended(self):
        self.told(SUM, (4, (1, 2, 3)), [(0, 5), (1, 6)], 3, (4, (1, 2, 3)), [], [NO_TOUCH] * 3)


class TestByTicks(RunCase):
    def test_the_same_as_tick_by_tick(self):
        chance = random.Random(6)
        for _ in range(300):
            program, stand, letters = some_program(chance)
            for many in [0, 1, 2, 13, 20]:
                behind, said, touched, _ = expected(program, stand, letters, many)
                self.told(program, stand, letters, many, behind, said, touched)

    def test_parted_in_two(self):
        chance = random.Random(66)
        for _ in range(100):
            program, stand, letters = some_program(chance)
            whole = run(program, stand, letters, 20)
            for first in range(21):
                between, said = run(program, stand, letters, first)
                lying = expected(program, stand, letters, first)[3]
                later = [(0, number) for number in lying]
                later += [(at - first, number) for at, number in letters if at >= first]
                behind, more = run(program, between, later, 20 - first)
                self.assertEqual((behind, said + [(at + first, number) for at, number in more]), whole)
                for asked in [touches, trace]:
                    parts = asked(program, stand, letters, first) + asked(program, between, later, 20 - first)
                    self.assertEqual(parts, asked(program, stand, letters, 20))


class TestHandedIn(unittest.TestCase):
    LETTERS = [(0, 3), (0, 4), (7, 5)]

    def test_told_lists_are_the_askers_own(self):
        for asked in [touches, trace, lambda *handed: run(*handed)[1]]:
            first = asked(DOUBLES, (0, (0,)), list(self.LETTERS), 12)
            self.assertIs(type(first), list)
            kept = copy.deepcopy(first)
            first.reverse()
            first.append(None)
            second = asked(DOUBLES, (0, (0,)), list(self.LETTERS), 12)
            self.assertEqual(second, kept)
            second.clear()
            self.assertEqual(asked(DOUBLES, (0, (0,)), list(self.LETTERS), 12), kept)

    def test_an_empty_told_list_is_the_askers_own(self):
        for asked in [touches, trace, lambda *handed: run(*handed)[1]]:
            asked(DOUBLES, (0, (0,)), [], 0).append(1)
            self.assertEqual(asked(DOUBLES, (0, (0,)), [], 0), [])

    def test_letters_are_neither_changed_nor_kept(self):
        letters = list(self.LETTERS)
        for asked in [run, touches, trace]:
            told = copy.deepcopy(asked(DOUBLES, (0, (0,)), letters, 12))
            self.assertEqual(letters, self.LETTERS)
            letters.clear()
            self.assertNotEqual(asked(DOUBLES, (0, (0,)), letters, 12), told)
            letters.extend(self.LETTERS)
            self.assertEqual(asked(DOUBLES, (0, (0,)), letters, 12), told)

    def test_kinds_of_what_is_told(self):
        stand, said = run(DOUBLES, (0, (0,)), list(self.LETTERS), 12)
        self.assertEqual((type(stand), type(stand[0]), type(stand[1])), (tuple, int, tuple))
        for one in said:
            self.assertEqual((type(one), [type(part) for part in one]), (tuple, [int, int]))
        for one in touches(DOUBLES, (0, (0,)), list(self.LETTERS), 12):
            self.assertEqual((type(one), [type(part) for part in one]), (tuple, [tuple, tuple]))
        for one in trace(DOUBLES, (0, (0,)), list(self.LETTERS), 12):
            self.assertIs(type(one), tuple)

    def test_by_their_names_in_another_order(self):
        for asked in [run, touches, trace]:
            told = asked(many=4, letters=[(0, 3)], stand=(0, (0,)), program=DOUBLES)
            self.assertEqual(told, asked(DOUBLES, (0, (0,)), [(0, 3)], 4))
        self.assertEqual(run(letters=[(0, 3)], many=4, program=DOUBLES, stand=(0, (0,))), ((4, (0,)), [(2, 6)]))


if __name__ == "__main__":
    unittest.main()
