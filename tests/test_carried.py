import random
import unittest

from carrying import Model, some_call, some_program
from warmove.carried import Carried
from warmove.errors import MoveError, NoHouse, NoStep
from warmove.plans import carried_by, left_by
from warmove.rounds import rounds
from warmove.runs import run, trace
from warmove.stops import earliest

FAR = 10 ** 39
# Sheet 0 counts by sheet 1 and is said; sheet 2 holds 0, so the jump always jumps.
COUNTING = (3, 10, (("add", 0, 1), ("say", 0), ("jump", 2, 0)))
AT_FIRST = (0, (0, 3, 0))


class CarriedCase(unittest.TestCase):
    def refused(self, error, ask, *handed):
        with self.assertRaises(error) as caught:
            ask(*handed)
        self.assertIsInstance(caught.exception, MoveError)

    def looks(self, carried, now, said, house, ticks):
        """Look over what is told of the whole."""
        self.assertEqual((carried.now(), carried.said(), carried.house(), carried.ticks()), (now, said, house, ticks))
        self.assertEqual([type(carried.now()), type(carried.said())], [tuple, list])
        self.assertEqual([type(carried.house()), type(carried.ticks())], [int, int])

    def counting(self, to=None, copied=(), stopped=False):
        """Tell the program that counts, with a carrying that has come so far."""
        carried = Carried(COUNTING, AT_FIRST, 6)
        if to is not None:
            carried.begin(to)
        for p in copied:
            carried.copy(p)
        if stopped:
            carried.stop()
        return carried


class TestTick(CarriedCase):
    def test_without_a_carrying(self):
        carried = self.counting()
        self.looks(carried, AT_FIRST, [], 0, 0)
        told = [carried.tick() for _ in range(5)]
        self.assertEqual(told, [("did", None), ("said", 3), ("did", None), ("did", None), ("said", 6)])
        self.assertEqual([type(one) for one in told], [tuple] * 5)
        self.looks(carried, (2, (6, 3, 0)), [3, 6], 0, 5)

    def test_waiting_and_ended_ticks_are_done(self):
        carried = Carried((1, 5, (("take", 0), ("end",))), (0, (2,)), 2)
        self.assertEqual([carried.tick() for _ in range(3)], [("waits", None)] * 3)
        self.looks(carried, (0, (2,)), [], 0, 3)
        self.assertIsNone(carried.letter(4))
        self.assertEqual(carried.tick(), ("took", 4))
        self.assertEqual([carried.tick() for _ in range(2)], [("ended", None)] * 2)
        self.looks(carried, (1, (4,)), [], 0, 6)

    def test_letters_in_order(self):
        carried = Carried((1, 5, (("take", 0), ("say", 0)) * 3), (0, (0,)), 2)
        for v in (3, 1, 4):
            carried.letter(v)
        for _ in range(6):
            carried.tick()
        self.looks(carried, (6, (4,)), [3, 1, 4], 0, 6)

    def test_standing_still(self):
        carried = self.counting(1, [0, 1, 2], True)
        for _ in range(3):
            self.assertEqual(carried.tick(), ("still",))
        self.looks(carried, AT_FIRST, [], 0, 0)

    def test_letters_while_it_stands_still(self):
        carried = Carried((1, 5, (("take", 0), ("say", 0))), (0, (0,)), 2)
        carried.begin(1)
        carried.stop()
        carried.letter(2)
        carried.letter(3)
        self.assertEqual(carried.tick(), ("still",))
        carried.end()
        self.assertEqual([carried.tick(), carried.tick()], [("took", 2), ("said", 2)])

    def test_lacks_the_least(self):
        carried = self.counting(1, [], True)
        self.assertEqual(carried.early(), 0)
        for _ in range(2):
            self.assertEqual(carried.tick(), ("lacks", 0))
        carried.bring(0)
        self.assertEqual(carried.tick(), ("lacks", 1))
        self.looks(carried, AT_FIRST, [], 1, 0)
        carried.bring(1)
        self.assertEqual([carried.tick(), carried.tick()], [("did", None), ("said", 3)])
        self.assertEqual(carried.tick(), ("lacks", 2))
        self.looks(carried, (2, (3, 3, 0)), [3], 1, 2)
        carried.bring(2)
        self.assertEqual(carried.tick(), ("did", None))

    def test_lacks_the_least_whichever_stands_first(self):
        for row, answer in [(("add", 2, 1), 1), (("add", 1, 2), 1), (("add", 2, 2), 2), (("jump", 1, 0), 1)]:
            carried = Carried((3, 10, (row,)), (0, (0, 5, 5)), 2)
            carried.begin(1)
            carried.stop()
            carried.early()
            self.assertEqual(carried.tick(), ("lacks", answer))

    def test_what_is_written_over_there_has_come(self):
        rows = (("set", 0, 7), ("say", 0), ("take", 1), ("say", 1), ("say", 2))
        carried = Carried((3, 10, rows), (0, (1, 2, 3)), 2)
        carried.letter(9)
        carried.begin(1)
        self.assertEqual(carried.stop(), [0, 1, 2])
        carried.early()
        self.assertEqual(carried.now(), (0, (1, 2, 3)))
        told = [carried.tick() for _ in range(5)]
        self.assertEqual(told, [("did", None), ("said", 7), ("took", 9), ("said", 9), ("lacks", 2)])
        self.refused(NoStep, carried.bring, 0)
        self.refused(NoStep, carried.bring, 1)
        self.looks(carried, (4, (7, 9, 3)), [7, 9], 1, 4)
        carried.bring(2)
        self.assertEqual(carried.tick(), ("said", 3))

    def test_waits_and_ends_with_lacking_sheets(self):
        for row, word in [(("take", 0), "waits"), (("end",), "ended")]:
            carried = Carried((1, 10, (row,)), (0, (1,)), 2)
            carried.begin(1)
            carried.stop()
            carried.early()
            self.assertEqual(carried.tick(), (word, None))
            self.assertEqual(carried.ticks(), 1)
            self.assertIsNone(carried.bring(0))


class TestStop(CarriedCase):
    def test_those_not_copied(self):
        self.assertEqual(self.counting(1).stop(), [0, 1, 2])
        self.assertEqual(self.counting(1, [1]).stop(), [0, 2])
        self.assertEqual(self.counting(1, [2, 0, 1]).stop(), [])

    def test_those_written_since(self):
        carried = self.counting(1, [0, 1, 2])
        carried.tick()
        self.assertEqual(carried.stop(), [0])

    def test_read_ones_stay_as_they_are(self):
        carried = self.counting(1, [1, 2])
        carried.tick()
        carried.copy(0)
        carried.tick()
        carried.tick()
        self.assertEqual(carried.stop(), [])

    def test_copied_again(self):
        carried = self.counting(1, [0, 0, 1, 2])
        carried.tick()
        carried.copy(0)
        self.assertEqual(carried.stop(), [])
        self.assertEqual(carried.end(), 5)

    def test_written_with_the_same_number(self):
        for rows, letters in [((("set", 0, 4),), []), ((("take", 0),), [4]), ((("add", 0, 1),), [])]:
            carried = Carried((2, 10, rows), (0, (4, 0)), 2)
            carried.begin(1)
            carried.copy(0)
            carried.copy(1)
            for v in letters:
                carried.letter(v)
            carried.tick()
            self.assertEqual(carried.now()[1], (4, 0))
            self.assertEqual(carried.stop(), [0])
            self.assertEqual(carried.end(), 3)

    def test_copies_of_a_carrying_ahead_are_none(self):
        carried = self.counting(1, [0, 1, 2], True)
        carried.drop()
        carried.begin(1)
        self.assertEqual(carried.stop(), [0, 1, 2])
        self.assertEqual(carried.end(), 3)
        carried.begin(2)
        carried.copy(1)
        self.assertEqual(carried.stop(), [0, 2])
        self.assertEqual(carried.early(), 1)

    def test_told_list_is_the_askers_own(self):
        carried = self.counting(1, [1])
        left = carried.stop()
        left.clear()
        self.assertEqual(carried.end(), 3)
        carried.tick()
        carried.tick()
        said = carried.said()
        said.append(9)
        said[0] = 8
        self.assertEqual(carried.said(), [3])
        kept = carried.said()
        carried.tick()
        carried.tick()
        carried.tick()
        self.assertEqual((kept, carried.said()), ([3], [3, 6]))


class TestGoOn(CarriedCase):
    def test_end(self):
        carried = self.counting(4, [0, 1], True)
        self.assertEqual(carried.end(), 3)
        self.looks(carried, AT_FIRST, [], 4, 0)
        self.assertEqual(carried.tick(), ("did", None))

    def test_end_tells_copies_and_what_was_carried_besides(self):
        for copied, answer in [([], 3), ([0], 3), ([0, 1, 2], 3), ([0, 0, 0], 5), ([0, 1, 2, 2, 2], 5)]:
            self.assertEqual(self.counting(1, copied, True).end(), answer)

    def test_early_tells_copies_alone(self):
        for copied, answer in [([], 0), ([0], 1), ([0, 1, 2], 3), ([0, 0, 0], 3)]:
            carried = self.counting(1, copied, True)
            told = carried.early()
            self.assertEqual((told, type(told)), (answer, int))
            self.looks(carried, AT_FIRST, [], 1, 0)

    def test_early_with_all_there(self):
        carried = self.counting(1, [0, 1, 2], True)
        carried.early()
        for p in range(3):
            self.refused(NoStep, carried.bring, p)
        self.assertIsNone(carried.begin(2))

    def test_copies_of_each_carrying_by_itself(self):
        carried = self.counting(1, [0, 1, 2], True)
        self.assertEqual(carried.end(), 3)
        carried.begin(0)
        carried.copy(0)
        carried.stop()
        self.assertEqual(carried.early(), 1)

    def test_drop(self):
        for stopped in (False, True):
            carried = self.counting(3, [0], stopped)
            self.assertIsNone(carried.drop())
            self.looks(carried, AT_FIRST, [], 0, 0)
            self.assertEqual(carried.tick(), ("did", None))
            self.assertIsNone(carried.begin(3))

    def test_bring_with_what_it_held_at_the_stop(self):
        carried = Carried((2, 10, (("add", 0, 0), ("add", 0, 0), ("say", 0))), (0, (1, 5)), 2)
        carried.begin(1)
        carried.copy(0)
        carried.tick()
        self.assertEqual(carried.stop(), [0, 1])
        carried.early()
        self.assertEqual(carried.now(), (1, (2, 5)))
        self.assertIsNone(carried.bring(0))
        self.assertEqual([carried.tick(), carried.tick()], [("did", None), ("said", 4)])
        self.assertEqual(carried.now(), (3, (4, 5)))


class TestRefused(CarriedCase):
    def unchanged(self, carried, error, calls):
        """Look that each call is refused, and that it changes nothing that can be told."""
        before = (carried.now(), carried.said(), carried.house(), carried.ticks())
        for ask, *handed in calls:
            self.refused(error, ask, *handed)
        self.assertEqual((carried.now(), carried.said(), carried.house(), carried.ticks()), before)

    def test_begin_to_no_house(self):
        carried = Carried(COUNTING, AT_FIRST, 3)
        self.unchanged(carried, NoHouse, [(carried.begin, h) for h in [0, -1, 3, 4, FAR, -FAR]])
        for h in (1, 2, 0):
            carried.begin(h)
            carried.stop()
            carried.end()
            self.refused(NoHouse, carried.begin, h)

    def test_begin_with_each_number_of_houses(self):
        for houses in range(2, 7):
            carried = Carried(COUNTING, AT_FIRST, houses)
            self.refused(NoHouse, carried.begin, houses)
            self.assertIsNone(carried.begin(houses - 1))

    def test_no_house_goes_first(self):
        carried = self.counting(1)
        self.unchanged(carried, NoHouse, [(carried.begin, h) for h in (0, -1, 6)])
        carried.stop()
        self.unchanged(carried, NoHouse, [(carried.begin, h) for h in (0, -1, 6)])
        carried.early()
        self.unchanged(carried, NoHouse, [(carried.begin, h) for h in (1, -1, 6)])

    def test_begin_while_one_is_on(self):
        carried = self.counting(1, [0])
        self.unchanged(carried, NoStep, [(carried.begin, h) for h in (1, 2, 5)])
        self.assertEqual(carried.stop(), [1, 2])
        self.unchanged(carried, NoStep, [(carried.begin, h) for h in (1, 2, 5)])
        carried.end()
        self.assertEqual(carried.house(), 1)

    def test_begin_while_some_have_not_come(self):
        carried = self.counting(1, [0], True)
        carried.early()
        self.unchanged(carried, NoStep, [(carried.begin, h) for h in (0, 2, 5)])
        carried.bring(1)
        self.refused(NoStep, carried.begin, 0)
        carried.bring(2)
        self.assertIsNone(carried.begin(0))

    def test_where_none_is_on(self):
        carried = self.counting()
        calls = [(carried.copy, 0), (carried.stop,), (carried.drop,), (carried.end,), (carried.early,)]
        self.unchanged(carried, NoStep, calls)
        carried.tick()
        self.unchanged(carried, NoStep, calls)
        for stopped in (False, True):
            dropped = self.counting(1, [0], stopped)
            dropped.drop()
            calls = [(dropped.copy, 0), (dropped.stop,), (dropped.drop,), (dropped.end,), (dropped.early,)]
            self.unchanged(dropped, NoStep, calls)
        for go_on in ("end", "early"):
            there = self.counting(1, [0], True)
            getattr(there, go_on)()
            calls = [(there.copy, 0), (there.stop,), (there.drop,), (there.end,), (there.early,)]
            self.unchanged(there, NoStep, calls)

    def test_where_it_stands_still(self):
        carried = self.counting(1, [0], True)
        self.unchanged(carried, NoStep, [(carried.copy, 1), (carried.stop,), (carried.stop,)])
        self.assertEqual(carried.end(), 3)

    def test_where_it_does_not_stand_still(self):
        carried = self.counting(1, [0])
        self.unchanged(carried, NoStep, [(carried.end,), (carried.early,)])
        self.assertEqual(carried.stop(), [1, 2])
        self.assertEqual(carried.early(), 1)

    def test_bring_of_one_that_is_not_lacking(self):
        carried = self.counting(1, [0])
        calls = [(carried.bring, p) for p in (0, 1, 2, 3, -1, FAR)]
        self.unchanged(carried, NoStep, calls)
        carried.stop()
        self.unchanged(carried, NoStep, calls)
        carried.early()
        self.unchanged(carried, NoStep, [(carried.bring, p) for p in (0, 3, -1, FAR)])
        carried.bring(2)
        self.unchanged(carried, NoStep, [(carried.bring, p) for p in (0, 2)])
        carried.bring(1)
        self.unchanged(carried, NoStep, calls)

    def test_bring_of_what_was_carried(self):
        carried = self.counting(1, [0], True)
        carried.end()
        for p in range(3):
            self.refused(NoStep, carried.bring, p)


class TestOneRun(CarriedCase):
    def both(self, carried, model, word, handed):
        """Make a call at both, and look that the same is told or refused."""
        answer = getattr(model, word)(*handed)
        if isinstance(answer, type):
            self.refused(answer, getattr(carried, word), *handed)
        else:
            self.assertEqual(getattr(carried, word)(*handed), answer, (word, handed))
        return answer

    def test_long_rows(self):
        chance = random.Random(19)
        seen = set()
        for _ in range(250):
            program, stand = some_program(chance)
            houses = chance.randint(2, 6)
            carried, model = Carried(program, stand, houses), Model(program, stand, houses)
            letters = []
            for _ in range(120):
                word, handed = some_call(chance, model)
                if word == "letter":
                    letters.append((carried.ticks(), handed[0]))
                answer = self.both(carried, model, word, handed)
                if word == "tick":
                    seen.add(answer[0])
                else:
                    seen.add((word, answer if isinstance(answer, type) else None))
                self.looks(carried, model.now(), model.said(), model.house(), model.ticks())
                behind, said = run(program, stand, letters, carried.ticks())
                self.assertEqual((carried.now(), carried.said()), (behind, [number for at, number in said]))
        words = {"did", "said", "took", "waits", "ended", "still", "lacks"}
        told = {(word, None) for word in ("letter", "begin", "copy", "stop", "end", "early", "bring", "drop")}
        refused = {(word, NoStep) for word in ("begin", "copy", "stop", "end", "early", "bring", "drop")}
        self.assertEqual(seen, words | told | refused | {("begin", NoHouse)})

    def test_two_side_by_side(self):
        chance = random.Random(20)
        program, stand = COUNTING, AT_FIRST
        pairs = [(Carried(program, stand, 3), Model(program, stand, 3)) for _ in range(2)]
        for _ in range(1500):
            carried, model = chance.choice(pairs)
            self.both(carried, model, *some_call(chance, model))
            for one, other in pairs:
                self.looks(one, other.now(), other.said(), other.house(), other.ticks())

    def test_what_is_handed_in_stays_as_it_is(self):
        carried = self.counting(1, [0, 1])
        for _ in range(9):
            carried.tick()
        self.assertEqual((COUNTING, AT_FIRST), ((3, 10, (("add", 0, 1), ("say", 0), ("jump", 2, 0))), (0, (0, 3, 0))))


class TestByPlans(CarriedCase):
    def carry(self, program, stand, copies, stop):
        """Carry a program by a plan, each tick's copies ahead of the tick; tell it and what is left."""
        carried = Carried(program, stand, 2)
        carried.begin(1)
        for tick in range(stop):
            for at, p in copies:
                if at == tick:
                    carried.copy(p)
            carried.tick()
        return carried, carried.stop()

    def same_run(self, carried, program, stand, many):
        behind, said = run(program, stand, [], many)
        self.assertEqual((carried.now(), carried.said()), (behind, [number for at, number in said]))

    def test_by_the_plan_of_the_earliest_stop(self):
        chance = random.Random(21)
        found = 0
        for _ in range(300):
            program, stand = some_program(chance)
            n, b, s = program[0], chance.randint(1, 3), chance.randint(0, 2)
            written = trace(program, stand, [], 30)
            told = earliest(n, written, b, s)
            if told[0] == "stop":
                found += 1
                word, stop, copies = told
                carried, left = self.carry(program, stand, copies, stop)
                self.assertEqual(left, left_by(n, written, (copies, stop)))
                self.assertLessEqual(len(left), s)
                self.assertEqual(carried.end(), carried_by(n, written, (copies, stop)))
                for _ in range(5):
                    carried.tick()
                self.same_run(carried, program, stand, stop + 5)
        self.assertGreater(found, 100)

    def test_in_rounds(self):
        chance = random.Random(22)
        for _ in range(300):
            program, stand = some_program(chance)
            n, b, s = program[0], chance.randint(1, 3), chance.randint(0, 2)
            written = trace(program, stand, [], 200)
            told, stop, left = rounds(n, written, b, s, 6)
            copies = [(begun + place // b, p) for begun, sheets in told for place, p in enumerate(sheets)]
            carried, left_there = self.carry(program, stand, copies, stop)
            self.assertEqual(left_there, list(left))
            self.assertEqual(left_there, left_by(n, written, (copies, stop)))
            self.assertEqual(carried.end(), carried_by(n, written, (copies, stop)))
            self.same_run(carried, program, stand, stop)


class TestHandedIn(CarriedCase):
    def test_by_their_names_in_another_order(self):
        carried = Carried(houses=3, stand=(0, (1, 2)), program=(2, 5, (("take", 0), ("say", 1))))
        self.assertIsNone(carried.letter(v=4))
        self.assertIsNone(carried.begin(h=2))
        self.assertIsNone(carried.copy(p=0))
        self.assertEqual(carried.stop(), [1])
        carried.early()
        self.assertIsNone(carried.bring(p=1))
        self.assertEqual([carried.tick(), carried.tick()], [("took", 4), ("said", 2)])
        self.looks(carried, (2, (4, 2)), [2], 2, 2)


if __name__ == "__main__":
    unittest.main()
