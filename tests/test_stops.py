import itertools
import random
import unittest

from asking import AskingCase
from warmove.plans import carried_by, is_plan, left_by
from warmove.stops import bars, earliest, least_left, plan_for

FAR = 10 ** 39
# Sheet 0 is written at 0 and 3, sheet 1 at 1, sheet 2 never, sheet 3 at 5.
TRACE = [(0,), (1,), (), (0,), (), (3,)]


def last_writing(trace, p, stop):
    """Tell the last tick ahead of the stop at which p is written, -1 where there is none."""
    return max([tick for tick in range(min(stop, len(trace))) if p in trace[tick]], default=-1)


def barring(n, trace, b, s, stop, t):
    """Tell whether t bars, word by word as the document has it."""
    if t not in range(-1, stop):
        return False
    return len([p for p in range(n) if last_writing(trace, p, stop) >= t]) > b * (stop - t - 1) + s


def all_barring(n, trace, b, s, stop):
    """Tell all numbers that bar a stop."""
    # More than n sheets there are not, so nothing further ahead of the stop bars it.
    return [t for t in range(max(-1, stop - n - 1), stop) if barring(n, trace, b, s, stop, t)]


def has_plan(n, trace, b, s, stop):
    """Tell whether there is a plan, by going through all lists of copies."""
    pairs = [(tick, p) for tick in range(stop) for p in range(n)]
    for many in range(len(pairs) + 1):
        if any(is_plan(n, trace, b, s, (list(copies), stop)) for copies in itertools.combinations(pairs, many)):
            return True
    return False


def some_trace(chance, n, most):
    often = chance.choice([2, 4, 9])
    return [tuple(p for p in range(n) if chance.randrange(often) == 0) for _ in range(chance.randint(0, most))]


class StopCase(AskingCase):
    def copies(self, n, trace, b, s, stop, copies):
        """Look over the copies of a plan: each sheet once, for good, and none that is left."""
        self.assertIs(type(copies), list)
        for pair in copies:
            self.assertIs(type(pair), tuple)
            self.whole(*pair)
        self.assertEqual(copies, sorted(copies))
        sheets = [p for tick, p in copies]
        ticks = [tick for tick, p in copies]
        self.assertEqual(len(sheets), len(set(sheets)))
        self.assertLessEqual(max([ticks.count(tick) for tick in ticks], default=0), b)
        for tick, p in copies:
            self.assertTrue(last_writing(trace, p, stop) < tick < stop, (tick, p))
        left = left_by(n, trace, (copies, stop))
        self.assertLessEqual(len(left), s)
        self.assertEqual(sorted(left + sheets), list(range(n)))
        self.assertIs(is_plan(n, trace, b, s, (copies, stop)), True)
        self.assertEqual(carried_by(n, trace, (copies, stop)), n)

    def of_stop(self, n, trace, b, s, stop):
        """Look over what is told of a stop, and tell its word."""
        told = self.asked(plan_for, n, trace, b, s, stop)
        self.assertIs(type(told), tuple)
        word, found = told
        if all_barring(n, trace, b, s, stop):
            self.assertEqual(word, "barred")
            self.bar(n, trace, b, s, stop, found)
        else:
            self.assertEqual(word, "plan")
            self.copies(n, trace, b, s, stop, found)
        return word

    def bar(self, n, trace, b, s, stop, t):
        self.whole(t)
        self.assertTrue(barring(n, trace, b, s, stop, t), (stop, t))
        self.assertIs(bars(n, trace, b, s, stop, t), True)

    def of_trace(self, n, trace, b, s):
        """Look over what is told of a trace, and tell the stop or None."""
        told = self.asked(earliest, n, trace, b, s)
        self.assertIs(type(told), tuple)
        free = [stop for stop in range(len(trace) + 1) if not all_barring(n, trace, b, s, stop)]
        if free:
            word, stop, copies = told
            self.whole(stop)
            self.assertEqual((word, stop), ("stop", free[0]))
            self.copies(n, trace, b, s, stop, copies)
            return stop
        word, shown = told
        self.assertEqual((word, type(shown), len(shown)), ("barred", list, len(trace) + 1))
        for stop, t in enumerate(shown):
            self.bar(n, trace, b, s, stop, t)
        return None

    def of_least(self, n, trace, b, stop, answer):
        """Look over the least that must be left to a stop."""
        told = self.asked(least_left, n, trace, b, stop)
        self.assertIs(type(told), tuple)
        least, t = told
        self.whole(least)
        self.assertEqual(least, answer)
        self.assertEqual(plan_for(n, trace, b, least, stop)[0], "plan")
        if least == 0:
            self.assertIsNone(t)
        else:
            self.bar(n, trace, b, least - 1, stop, t)
            self.assertEqual(plan_for(n, trace, b, least - 1, stop)[0], "barred")


class TestBars(StopCase):
    def one_by_one(self, n, trace, b, s, stop):
        for t in [-FAR, -2, -1, *range(stop), stop, stop + 1, FAR]:
            self.truth(barring(n, trace, b, s, stop, t), bars, n, trace, b, s, stop, t)

    def test_each_number(self):
        for stop in range(9):
            for b in (1, 2, 6):
                for s in range(5):
                    self.one_by_one(4, TRACE, b, s, stop)

    def test_stop_0(self):
        self.truth(True, bars, 3, TRACE, 1, 2, 0, -1)
        self.truth(False, bars, 3, TRACE, 1, 3, 0, -1)
        for t in [-2, 0, 1, FAR, -FAR]:
            self.truth(False, bars, 3, TRACE, 1, 0, 0, t)

    def test_far_numbers_never_bar(self):
        # Behind the stop there would be fewer than no ticks to copy at.
        for t in [FAR, -FAR, 7, 8, -2, -3]:
            self.truth(False, bars, 12, [tuple(range(12))] * 7, 1, 0, 7, t)
        self.truth(True, bars, 12, [tuple(range(12))] * 7, 1, 0, 7, 6)

    def test_just_as_many_as_can_be_copied_and_left(self):
        for b in range(1, 7):
            for s in range(4):
                for ticks in (0, 1):
                    many = b * ticks + s
                    trace = [tuple(range(many))]
                    stop = ticks + 1
                    self.truth(False, bars, 12, trace, b, s, stop, 0)
                    self.truth(True, bars, 12, [tuple(range(many + 1))], b, s, stop, 0)

    def test_last_writing_ahead_of_the_stop_and_at_it(self):
        trace = [(), (0,), ()]
        self.truth(True, bars, 1, trace, 1, 0, 2, 1)
        self.truth(False, bars, 1, trace, 1, 0, 1, 0)
        self.truth(False, bars, 1, trace, 1, 0, 1, 1)
        self.truth(False, bars, 1, trace, 1, 0, 3, 1)
        self.truth(False, bars, 1, [()], 1, 0, 1, -1)

    def test_stop_behind_the_trace(self):
        trace = [(0, 1, 2)] * 4
        for stop, answer in [(4, True), (5, True), (6, True), (7, False), (2100, False)]:
            self.truth(answer, bars, 3, trace, 1, 0, stop, 3)
        for stop in (2099, 2100):
            self.truth(False, bars, 12, [], 1, 0, stop, -1)
            self.truth(False, bars, 12, [], 1, 0, stop, stop - 1)

    def test_of_2000_ticks(self):
        trace = [tuple(range(12))] * 2000
        for stop, t, answer in [(2000, 1999, True), (2001, 1999, True), (2002, 1999, False), (2100, 2099, False)]:
            self.truth(answer, bars, 12, trace, 6, 0, stop, t)

    def test_by_chance(self):
        chance = random.Random(10)
        for _ in range(150):
            n, b, s = chance.randint(1, 12), chance.randint(1, 6), chance.randint(0, 12)
            trace = some_trace(chance, n, 9)
            self.one_by_one(n, trace, b, s, chance.randint(0, len(trace) + 3))


class TestPlans(StopCase):
    def test_small_ones_by_all_plans(self):
        seen = []
        for n, length, most_stop in [(1, 3, 4), (2, 2, 3), (3, 2, 3)]:
            some = [tuple(p for p in range(n) if mask >> p & 1) for mask in range(2 ** n)]
            for trace in itertools.product(some, repeat=length):
                for b, s, stop in itertools.product((1, 2), (0, 1), range(most_stop + 1)):
                    trace = list(trace)
                    word = plan_for(n, trace, b, s, stop)[0]
                    self.assertEqual(word == "plan", has_plan(n, trace, b, s, stop), (n, trace, b, s, stop))
                    self.assertEqual(word == "barred", any(bars(n, trace, b, s, stop, t) for t in range(-2, stop + 2)))
                    seen.append(word)
        self.assertGreater(seen.count("plan"), 100)
        self.assertGreater(seen.count("barred"), 100)

    def test_all_left(self):
        self.assertEqual(self.asked(plan_for, 3, TRACE, 1, 3, 0), ("plan", []))
        self.assertEqual(self.asked(plan_for, 3, TRACE, 1, 12, 0), ("plan", []))
        self.assertEqual(self.asked(plan_for, 3, TRACE, 1, 2, 0), ("barred", -1))
        for stop in range(8):
            self.assertEqual(self.of_stop(4, [(0, 1, 2, 3)] * 7, 1, 4, stop), "plan")

    def test_each_stop(self):
        words = [self.of_stop(4, TRACE, 2, 0, stop) for stop in range(9)]
        self.assertEqual(words, ["barred", "barred", "barred", "plan", "barred", "plan", "barred", "plan", "plan"])

    def test_far_behind_the_trace(self):
        for b in (1, 6):
            self.assertEqual(self.of_stop(12, [tuple(range(12))] * 5, b, 0, 2100), "plan")
        self.assertEqual(self.of_stop(12, [], 6, 0, 2), "plan")
        self.assertEqual(self.of_stop(12, [], 6, 0, 1), "barred")

    def test_of_2000_ticks(self):
        trace = [(tick % 12,) for tick in range(2000)]
        for b, s, stop in [(1, 0, 2000), (1, 1, 2000), (1, 0, 2001), (1, 0, 2100), (6, 0, 1000), (6, 1, 3)]:
            self.of_stop(12, trace, b, s, stop)

    def test_by_chance(self):
        chance = random.Random(11)
        words = []
        for _ in range(1500):
            n, b, s = chance.randint(1, 12), chance.randint(1, 6), chance.choice([0, 0, 1, 2, 5, 12])
            trace = some_trace(chance, n, 12)
            words.append(self.of_stop(n, trace, b, s, chance.randint(0, len(trace) + 4)))
        self.assertGreater(words.count("plan"), 300)
        self.assertGreater(words.count("barred"), 300)


class TestEarliest(StopCase):
    def test_of_no_tick(self):
        self.assertEqual(self.asked(earliest, 2, [], 6, 2), ("stop", 0, []))
        self.assertEqual(self.asked(earliest, 2, [], 6, 1), ("barred", [-1]))

    def test_stop_0_where_all_may_be_left(self):
        self.assertEqual(self.asked(earliest, 3, [(0, 1, 2)] * 9, 1, 3), ("stop", 0, []))

    def test_at_the_end_of_the_trace(self):
        self.assertEqual(self.of_trace(3, [()] * 3, 1, 0), 3)
        self.assertIsNone(self.of_trace(3, [()] * 2, 1, 0))
        self.assertEqual(self.of_trace(3, [()] * 2, 1, 1), 2)

    def test_just_the_least(self):
        self.assertEqual(self.of_trace(4, TRACE, 2, 0), 3)
        self.assertEqual(self.of_trace(4, TRACE, 4, 0), 3)
        self.assertEqual(self.of_trace(4, TRACE, 1, 0), 5)

    def test_never_quiet(self):
        self.assertIsNone(self.of_trace(4, [(0, 1, 2, 3)] * 30, 6, 3))
        self.assertEqual(self.of_trace(4, [(0, 1, 2, 3)] * 30, 6, 4), 0)

    def test_of_2000_ticks(self):
        quiet = [(0, 1, 2)] * 1990 + [(2,)] * 10
        for trace, b, s, answer in [
            ([(0, 1, 2)] * 2000, 1, 2, None),
            ([(0, 1, 2)] * 1999 + [()], 3, 0, 2000),
            (quiet, 1, 0, None),
            (quiet, 1, 1, 1992),
            (quiet, 2, 1, 1991),
        ]:
            told = self.asked(earliest, 3, trace, b, s)
            if answer is None:
                self.assertEqual((told[0], len(told[1])), ("barred", 2001))
                for stop in [0, 1, 2, 3, 1000, 1998, 1999, 2000]:
                    self.bar(3, trace, b, s, stop, told[1][stop])
            else:
                self.assertEqual(told[:2], ("stop", answer))
                self.copies(3, trace, b, s, answer, told[2])
                self.assertTrue(all_barring(3, trace, b, s, answer - 1))

    def test_by_chance(self):
        chance = random.Random(12)
        stops = []
        for _ in range(400):
            n, b, s = chance.randint(1, 12), chance.randint(1, 6), chance.choice([0, 0, 1, 2, 5])
            stops.append(self.of_trace(n, some_trace(chance, n, 12), b, s))
        self.assertGreater(stops.count(None), 50)
        self.assertGreater(len(stops) - stops.count(None), 50)


class TestLeastLeft(StopCase):
    def test_stop_0(self):
        self.assertEqual(self.asked(least_left, 5, TRACE, 3, 0), (5, -1))
        self.of_least(5, [], 1, 0, 5)

    def test_none_where_it_is_0(self):
        self.assertEqual(self.asked(least_left, 4, TRACE, 2, 5), (0, None))
        self.assertEqual(self.asked(least_left, 12, [tuple(range(12))] * 9, 1, 2100), (0, None))

    def test_each_stop(self):
        for stop, answer in enumerate([4, 3, 2, 1, 1, 0, 1, 0, 0]):
            self.of_least(4, TRACE, 1, stop, answer)

    def test_all_are_written_at_the_last_tick(self):
        for b in range(1, 7):
            self.of_least(6, [tuple(range(6))] * 4, b, 4, 6)
            self.of_least(6, [tuple(range(6))] * 4, b, 5, 6 - b)

    def test_by_chance(self):
        chance = random.Random(13)
        seen = set()
        for _ in range(600):
            n, b = chance.randint(1, 12), chance.randint(1, 6)
            trace = some_trace(chance, n, 12)
            stop = chance.randint(0, len(trace) + 3)
            least = min(s for s in range(n + 1) if not all_barring(n, trace, b, s, stop))
            self.of_least(n, trace, b, stop, least)
            seen.add(least)
        self.assertTrue({0, 1, 2, 3, 4}.issubset(seen))


class TestHandedIn(unittest.TestCase):
    def test_trace_is_not_kept(self):
        trace = [(0, 1)] * 2
        told = earliest(2, trace, 1, 1), plan_for(2, trace, 1, 1, 2), least_left(2, trace, 1, 2)
        trace[:] = [()] * 2
        self.assertEqual((told[0][0], len(told[0][1])), ("barred", 3))
        self.assertEqual((told[1][0], told[2][0]), ("barred", 2))
        self.assertEqual(earliest(2, trace, 1, 1)[:2], ("stop", 1))
        self.assertEqual(least_left(2, trace, 1, 2), (0, None))

    def test_by_their_names_in_another_order(self):
        self.assertIs(bars(t=-1, stop=0, s=2, b=1, trace=TRACE, n=3), True)
        self.assertIs(bars(s=3, t=-1, n=3, stop=0, trace=TRACE, b=1), False)
        self.assertEqual(plan_for(stop=1, s=0, b=6, trace=[], n=1), ("plan", [(0, 0)]))
        self.assertEqual(earliest(s=0, b=6, trace=[()], n=1), ("stop", 1, [(0, 0)]))
        self.assertEqual(least_left(stop=0, b=6, trace=[()], n=2), (2, -1))

    def test_somewhat_beyond_the_bounds(self):
        sheets = tuple(range(14))
        self.assertEqual(plan_for(14, [sheets] * 2100, 7, 0, 2102)[0], "plan")
        self.assertEqual(plan_for(14, [sheets] * 2100, 7, 13, 2100), ("barred", 2099))
        self.assertEqual(least_left(14, [], 14, 3000), (0, None))
        self.assertEqual(earliest(14, [sheets] * 2100, 7, 14), ("stop", 0, []))
        # Nothing is promised here but that it is no error.
        for b, s in [(0, 0), (0, 2), (1, -1)]:
            plan_for(2, [(0, 1)], b, s, 2)
            earliest(2, [(0, 1)], b, s)
            bars(2, [(0, 1)], b, s, 2, 1)
            least_left(2, [(0, 1)], b, 2)


if __name__ == "__main__":
    unittest.main()
