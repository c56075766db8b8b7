import copy
import random
import unittest

from warmove.rounds import rounds


def trace_of(writings, many):
    """Tell a trace of so many ticks, by a dict of the sheets written at some of them."""
    return [tuple(writings.get(tick, ())) for tick in range(many)]


def expected(n, trace, b, s, most):
    """Tell it tick by tick: what is copied, then what is written."""
    told, tick, due = [], 0, list(range(n))
    good = set()
    while True:
        told.append((tick, tuple(due)))
        while due:
            good |= set(due[:b])
            due = due[b:]
            good -= set(trace[tick] if tick < len(trace) else ())
            tick += 1
        due = sorted(set(range(n)) - good)
        if len(due) <= s or len(told) == most:
            return (told, tick, tuple(due))


class RoundsCase(unittest.TestCase):
    def told(self, n, trace, b, s, most, answer):
        """Look over the answer, twice, and that the trace stays as it is."""
        handed = copy.deepcopy(trace)
        for _ in range(2):
            told = rounds(n, handed, b, s, most)
            self.assertEqual(told, answer)
            self.assertEqual([type(part) for part in told], [list, int, tuple])
            self.assertIs(type(told), tuple)
            for one in told[0]:
                self.assertEqual((type(one), [type(part) for part in one]), (tuple, [int, tuple]))
            self.assertEqual(handed, trace)


class TestFew(RoundsCase):
    def test_without_writings(self):
        self.told(4, [], 1, 0, 20, ([(0, (0, 1, 2, 3))], 4, ()))
        self.told(4, [()] * 10, 2, 0, 20, ([(0, (0, 1, 2, 3))], 2, ()))
        self.told(1, [], 6, 0, 1, ([(0, (0,))], 1, ()))

    def test_all_let_left(self):
        always = [(0, 1, 2)] * 30
        self.told(3, always, 1, 3, 20, ([(0, (0, 1, 2))], 3, (0, 1, 2)))
        self.told(3, always, 1, 12, 20, ([(0, (0, 1, 2))], 3, (0, 1, 2)))

    def test_one_round_let(self):
        self.told(3, [(0, 1)] * 30, 1, 0, 1, ([(0, (0, 1, 2))], 3, (0, 1)))

    def test_as_many_left_as_let(self):
        # At most s: just s will do, one more will not.
        always = [(1, 3)] * 30
        first = (0, (0, 1, 2, 3))
        self.told(4, always, 2, 2, 20, ([first], 2, (1, 3)))
        self.told(4, always, 2, 1, 3, ([first, (2, (1, 3)), (3, (1, 3))], 4, (1, 3)))


class TestAllWritten(RoundsCase):
    def test_as_many_rounds_as_are_let(self):
        always = [(0, 1, 2)] * 2000
        for most in [1, 2, 3, 19, 20]:
            told = [(2 * k, (0, 1, 2)) for k in range(most)]
            self.told(3, always, 2, 0, most, (told, 2 * most, (0, 1, 2)))
            self.told(3, always, 2, 2, most, (told, 2 * most, (0, 1, 2)))

    def test_twelve_sheets_one_at_a_tick_for_twenty_rounds(self):
        sheets = tuple(range(12))
        told = [(12 * k, sheets) for k in range(20)]
        self.told(12, [sheets] * 2000, 1, 0, 20, (told, 240, sheets))


class TestJustWhen(RoundsCase):
    """Three sheets, one at a tick: the first round is that of the ticks 0, 1 and 2, where sheet 1 is copied at 1."""

    FIRST = (0, (0, 1, 2))

    def test_at_just_the_tick_of_its_copying(self):
        self.told(3, trace_of({1: (1,)}, 9), 1, 0, 20, ([self.FIRST, (3, (1,))], 4, ()))

    def test_at_the_tick_ahead_of_it(self):
        self.told(3, trace_of({0: (1,)}, 9), 1, 0, 20, ([self.FIRST], 3, ()))

    def test_at_the_last_tick_of_the_round(self):
        self.told(3, trace_of({2: (1,)}, 9), 1, 0, 20, ([self.FIRST, (3, (1,))], 4, ()))
        self.told(3, trace_of({2: (2,)}, 9), 1, 0, 20, ([self.FIRST, (3, (2,))], 4, ()))

    def test_at_the_first_tick_behind_the_end(self):
        self.told(3, trace_of({3: (1,)}, 9), 1, 0, 20, ([self.FIRST], 3, ()))

    def test_behind_the_end_for_the_round_behind(self):
        # Sheet 0 is copied again at 3, where sheet 1, which isn't of that round, is written.
        told = [self.FIRST, (3, (0,)), (4, (1,))]
        self.told(3, trace_of({0: (0,), 3: (1,)}, 9), 1, 0, 20, (told, 5, ()))
        self.told(3, trace_of({0: (0,), 3: (1,)}, 9), 1, 1, 20, ([self.FIRST], 3, (0,)))

    def test_written_ahead_of_its_second_copying(self):
        # Sheet 1 is copied again at 4: what is written at 3 is copied with it, what is written at 4 is not.
        told = [self.FIRST, (3, (0, 1))]
        self.told(3, trace_of({1: (0, 1), 3: (1,)}, 9), 1, 0, 20, (told, 5, ()))
        self.told(3, trace_of({1: (0, 1), 4: (1,)}, 9), 1, 0, 20, (told + [(5, (1,))], 6, ()))

    def test_many_copied_at_one_tick(self):
        self.told(3, trace_of({0: (0, 2)}, 9), 3, 0, 20, ([self.FIRST, (1, (0, 2))], 2, ()))
        self.told(3, trace_of({0: (0, 2), 1: (1,)}, 9), 3, 0, 20, ([self.FIRST, (1, (0, 2)), (2, (1,))], 3, ()))

    def test_the_last_of_the_rounds_let_leaves_some(self):
        self.told(3, trace_of({1: (1,), 3: (1, 2)}, 9), 1, 0, 2, ([self.FIRST, (3, (1,))], 4, (1, 2)))


class TestUneven(RoundsCase):
    def test_the_last_tick_has_fewer(self):
        five = (0, (0, 1, 2, 3, 4))
        self.told(5, [], 2, 0, 20, ([five], 3, ()))
        self.told(5, [], 3, 0, 20, ([five], 2, ()))
        self.told(5, [], 4, 0, 20, ([five], 2, ()))
        self.told(5, [], 5, 0, 20, ([five], 1, ()))
        self.told(5, [], 6, 0, 20, ([five], 1, ()))
        self.told(12, [], 5, 0, 20, ([(0, tuple(range(12)))], 3, ()))

    def test_which_tick_copies_which(self):
        # By twos, sheets 2 and 3 are copied at 1, sheet 4 at 2.
        five = (0, (0, 1, 2, 3, 4))
        self.told(5, trace_of({0: (2, 3, 4)}, 9), 2, 0, 20, ([five], 3, ()))
        self.told(5, trace_of({1: (2, 3, 4)}, 9), 2, 0, 20, ([five, (3, (2, 3))], 4, ()))
        self.told(5, trace_of({2: (4,)}, 9), 2, 0, 20, ([five, (3, (4,))], 4, ()))


class TestLengths(RoundsCase):
    def test_behind_the_trace_nothing_is_written(self):
        self.told(3, [(0, 1, 2)], 1, 0, 20, ([(0, (0, 1, 2)), (3, (0,))], 4, ()))
        self.told(3, [(0, 1, 2)] * 4, 1, 0, 20, ([(0, (0, 1, 2)), (3, (0, 1, 2)), (6, (0,))], 7, ()))

    def test_of_2000_ticks(self):
        trace = [(tick % 12,) for tick in range(2000)]
        for b in range(1, 7):
            self.told(12, trace, b, 0, 20, expected(12, trace, b, 0, 20))
        self.told(2, trace_of({1999: (0,)}, 2000), 1, 0, 20, ([(0, (0, 1))], 2, ()))


class TestTickByTick(RoundsCase):
    def test_the_same(self):
        chance = random.Random(8)
        lengths = set()
        for _ in range(600):
            n, b, s, most = chance.randint(1, 12), chance.randint(1, 6), chance.randint(0, 4), chance.randint(1, 20)
            often = chance.choice([2, 6, 30])
            many = chance.choice([0, 3, 20, 60])
            trace = [tuple(p for p in range(n) if chance.randrange(often) == 0) for _ in range(many)]
            answer = expected(n, trace, b, s, most)
            lengths.add(len(answer[0]))
            self.told(n, trace, b, s, most, answer)
        self.assertTrue({1, 2, 3, 4}.issubset(lengths))


class TestHandedIn(unittest.TestCase):
    def test_told_list_is_the_askers_own(self):
        trace = [(0, 1)] * 9
        first = rounds(2, trace, 1, 0, 3)[0]
        kept = list(first)
        first.clear()
        second = rounds(2, trace, 1, 0, 3)[0]
        self.assertEqual(second, kept)
        second.append(None)
        self.assertEqual(rounds(2, trace, 1, 0, 3)[0], kept)

    def test_trace_is_not_kept(self):
        trace = [(0, 1)] * 9
        told = rounds(2, trace, 1, 0, 3)
        trace.clear()
        self.assertEqual(told, ([(0, (0, 1)), (2, (0, 1)), (4, (0, 1))], 6, (0, 1)))
        self.assertEqual(rounds(2, trace, 1, 0, 3), ([(0, (0, 1))], 2, ()))

    def test_somewhat_beyond_the_bounds(self):
        sheets = tuple(range(14))
        self.assertEqual(rounds(14, [()] * 2100, 7, 13, 25), ([(0, sheets)], 2, ()))
        self.assertEqual(rounds(14, [], 15, 14, 0), ([(0, sheets)], 1, ()))
        told, stop, left = rounds(2, [(0, 1)] * 2100, 1, 0, 25)
        self.assertEqual((len(told), stop, left), (25, 50, (0, 1)))
        # Nothing is promised here but that it is no error.
        rounds(2, [(0, 1)] * 9, 0, 0, 3)

    def test_by_their_names_in_another_order(self):
        told = rounds(most=2, s=1, b=2, trace=[(0, 1, 2)] * 9, n=3)
        self.assertEqual(told, ([(0, (0, 1, 2)), (2, (0, 1, 2))], 4, (0, 1, 2)))
        self.assertEqual(rounds(s=3, n=3, most=2, trace=[(1,)] * 9, b=1), ([(0, (0, 1, 2))], 3, (1,)))


if __name__ == "__main__":
    unittest.main()
