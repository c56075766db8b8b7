import copy
import random
import unittest

from warmove.plans import carried_by, is_plan, left_by

FAR = 10 ** 29
# Sheet 0 is written at 0 and 3, sheet 1 at 1, sheet 2 never, sheet 3 at 5.
TRACE = [(0,), (1,), (), (0,), (), (3,)]


def expected_left(n, trace, plan):
    """Tell what is left, by each sheet's copyings and writings."""
    copies, stop = plan
    left = []
    for p in range(n):
        at = [tick for tick, sheet in copies if sheet == p and 0 <= tick <= stop - 1]
        behind = [tick for tick in range(len(trace)) if tick < stop and p in trace[tick] and at and tick >= max(at)]
        if not at or behind:
            left.append(p)
    return left


def expected_plan(n, trace, b, s, plan):
    """Tell whether it is a plan, by one thing behind the other."""
    copies, stop = plan
    ticks = [tick for tick, p in copies]
    return (
        stop >= 0
        and copies == sorted(set(copies))
        and all(p in range(n) for tick, p in copies)
        and all(tick in range(stop) for tick in ticks)
        and all(ticks.count(tick) <= b for tick in ticks)
        and len(expected_left(n, trace, plan)) <= s
    )


class PlanCase(unittest.TestCase):
    def asked(self, ask, *handed):
        """Ask twice, and look whether what is handed in stays as it is."""
        before = copy.deepcopy(handed)
        first, second = ask(*handed), ask(*handed)
        self.assertEqual(handed, before)
        self.assertEqual(first, second)
        return first

    def left(self, copies, stop, answer, n=4, trace=TRACE):
        told = self.asked(left_by, n, trace, (copies, stop))
        self.assertEqual(told, answer)
        self.assertEqual([type(told)] + [type(p) for p in told], [list] + [int] * len(answer))
        carried = self.asked(carried_by, n, trace, (copies, stop))
        self.assertEqual(carried, len(copies) + len(answer))
        self.assertIs(type(carried), int)

    def plan(self, answer, n, trace, b, s, copies, stop):
        self.assertIs(self.asked(is_plan, n, trace, b, s, (copies, stop)), answer, (copies, stop))


class TestLeft(PlanCase):
    def test_without_copies(self):
        self.left([], 0, [0, 1, 2, 3])
        self.left([], 6, [0, 1, 2, 3])
        self.left([], FAR, [0, 1, 2, 3])
        self.left([], 0, [0], 1, [])

    def test_all_copied_for_good(self):
        self.left([(4, 0), (2, 1), (0, 2), (6, 3)], 7, [])
        self.left([(4, 0), (2, 1), (0, 2), (0, 3)], 5, [])

    def test_written_at_its_copying(self):
        self.left([(3, 0), (1, 1), (0, 2), (5, 3)], 7, [0, 1, 3])
        self.left([(0, 0)], 1, [], 1, [()])
        self.left([(0, 0)], 1, [0], 1, [(0,)])

    def test_written_behind_its_copying(self):
        self.left([(2, 0), (0, 1), (0, 2), (4, 3)], 7, [0, 1, 3])
        self.left([(0, 0), (0, 1), (0, 2), (0, 3)], 6, [0, 1, 3])

    def test_written_ahead_of_its_copying(self):
        self.left([(1, 0)], 2, [], 1, [(0,)] * 1)
        self.left([(4, 0), (6, 3)], 7, [1, 2])

    def test_written_just_at_the_stop(self):
        # What is written at the stop or behind it isn't done.
        self.left([(1, 0), (2, 1), (0, 2), (0, 3)], 3, [])
        self.left([(1, 0), (2, 1), (0, 2), (0, 3)], 4, [0])
        self.left([(4, 3)], 5, [0, 1, 2])
        self.left([(4, 3)], 6, [0, 1, 2, 3])

    def test_the_greatest_of_its_copyings(self):
        self.left([(0, 0), (4, 0)], 6, [1, 2, 3])
        self.left([(4, 0), (0, 0)], 6, [1, 2, 3])
        self.left([(1, 0), (2, 0), (3, 0)], 6, [0, 1, 2, 3])
        self.left([(3, 0), (4, 0), (1, 0)], 6, [1, 2, 3])

    def test_the_same_twice(self):
        self.left([(4, 0), (4, 0), (0, 2), (0, 2)], 6, [1, 3])

    def test_sorted_and_not(self):
        self.left([(0, 2), (2, 1), (4, 0)], 5, [3])
        self.left([(4, 0), (0, 2), (2, 1)], 5, [3])
        self.left([(4, 0), (2, 1), (0, 2)], 5, [3])

    def test_of_sheets_that_there_are_not(self):
        self.left([(4, -1), (4, 4), (4, 12), (4, FAR), (4, -FAR)], 6, [0, 1, 2, 3])
        self.left([(4, -4), (4, 0), (4, 4)], 6, [1, 2, 3])

    def test_at_ticks_below_0(self):
        self.left([(-1, 2), (-2, 0), (-FAR, 1)], 6, [0, 1, 2, 3])
        self.left([(-1, 2), (0, 2)], 6, [0, 1, 3])

    def test_at_the_stop_and_behind_it(self):
        self.left([(6, 0), (6, 1), (7, 2), (FAR, 3)], 6, [0, 1, 2, 3])
        self.left([(5, 0), (5, 1), (5, 2), (6, 3)], 6, [3])
        # The copying behind the stop isn't the last one that counts.
        self.left([(2, 0), (6, 0)], 6, [0, 1, 2, 3])
        self.left([(4, 0), (7, 0)], 6, [1, 2, 3])

    def test_stop_0(self):
        self.left([(0, 0), (0, 1), (-1, 2), (1, 3)], 0, [0, 1, 2, 3])

    def test_stop_below_0(self):
        for stop in [-1, -2, -6, -7, -FAR]:
            self.left([(0, 0), (stop, 1), (stop - 1, 2), (3, 3)], stop, [0, 1, 2, 3])

    def test_stop_far_behind_the_trace(self):
        self.left([(FAR - 1, 0), (FAR - 1, 1), (FAR - 2, 2), (6, 3)], FAR, [])
        self.left([(3, 0), (FAR, 1), (FAR - 2, 2), (5, 3)], FAR, [0, 1, 3])
        self.left([(FAR - 1, 0), (FAR - 1, 1), (FAR - 2, 2), (6, 3)], 10 * FAR, [])
        self.left([(0, 0)], FAR, [], 1, [])

    def test_stop_within_the_trace(self):
        trace = [(0,), (), (0,), ()]
        for stop, answer in [(1, [0]), (2, [0]), (3, [0]), (4, [0]), (5, [0])]:
            self.left([(0, 0)], stop, answer, 1, trace)
        for stop, answer in [(1, [0]), (2, []), (3, [0]), (4, [0])]:
            self.left([(1, 0)], stop, answer, 1, trace)

    def test_trace_of_2000_ticks(self):
        trace = [tuple(range(12))] * 2000
        copies = [(1999, p) for p in range(6)] + [(2000, p) for p in range(6, 12)]
        self.left(copies, 2001, list(range(6)), 12, trace)
        self.left(copies, 2000, list(range(12)), 12, trace)


class TestCarried(PlanCase):
    def test_as_many_as_copies_has_and_are_left(self):
        self.assertEqual(carried_by(4, TRACE, ([], 0)), 4)
        self.assertEqual(carried_by(4, TRACE, ([(4, 0), (4, 1), (4, 2), (4, 3)], 5)), 4)
        self.assertEqual(carried_by(4, TRACE, ([(4, 0), (4, 1), (4, 2), (4, 3)], 6)), 5)
        self.assertEqual(carried_by(4, TRACE, ([(0, 0), (4, 0), (4, 1), (4, 2), (4, 3)], 6)), 6)

    def test_copies_that_leave_nothing_less_count_too(self):
        self.assertEqual(carried_by(2, [], ([(-1, 0), (0, 7), (9, 1), (0, 0), (0, 0)], 5)), 6)

    def test_no_plan_carries_fewer_than_n(self):
        chance = random.Random(9)
        for _ in range(200):
            n = chance.randint(1, 5)
            copies = sorted({(chance.randrange(4), chance.randrange(n)) for _ in range(chance.randrange(9))})
            self.assertGreaterEqual(carried_by(n, [(0,)] * 3, (copies, chance.randint(0, 5))), n)


class TestIsPlan(PlanCase):
    def test_plans(self):
        self.plan(True, 4, TRACE, 1, 4, [], 0)
        self.plan(True, 4, TRACE, 1, 12, [], 0)
        self.plan(True, 4, TRACE, 6, 4, [], FAR)
        self.plan(True, 4, TRACE, 1, 0, [(0, 2), (1, 3), (2, 1), (4, 0)], 5)
        self.plan(True, 4, TRACE, 4, 0, [(4, 0), (4, 1), (4, 2), (4, 3)], 5)
        self.plan(True, 4, TRACE, 2, 0, [(0, 0), (0, 2), (2, 1), (4, 0), (6, 3)], 7)
        self.plan(True, 4, TRACE, 2, 0, [(FAR - 2, 0), (FAR - 2, 1), (FAR - 1, 2), (FAR - 1, 3)], FAR)
        self.plan(True, 1, [], 1, 0, [(0, 0)], 1)

    def test_a_sheet_at_several_ticks(self):
        self.plan(True, 1, [], 1, 0, [(0, 0), (1, 0), (2, 0)], 3)

    def test_stop_below_0(self):
        self.plan(False, 4, TRACE, 6, 12, [], -1)
        self.plan(False, 4, TRACE, 6, 12, [], -FAR)
        self.plan(True, 4, TRACE, 6, 12, [], 0)

    def test_not_sorted(self):
        self.plan(True, 4, TRACE, 6, 12, [(1, 0), (2, 1)], 5)
        self.plan(False, 4, TRACE, 6, 12, [(2, 1), (1, 0)], 5)
        self.plan(True, 4, TRACE, 6, 12, [(1, 0), (1, 1), (1, 2)], 5)
        self.plan(False, 4, TRACE, 6, 12, [(1, 0), (1, 2), (1, 1)], 5)
        self.plan(False, 4, TRACE, 6, 12, [(0, 3), (1, 0), (2, 1), (0, 2)], 5)

    def test_a_tuple_twice(self):
        self.plan(False, 4, TRACE, 6, 12, [(1, 0), (1, 0)], 5)
        self.plan(False, 4, TRACE, 6, 12, [(0, 0), (1, 0), (1, 0)], 5)
        self.plan(False, 4, TRACE, 6, 12, [(1, 0), (2, 1), (1, 0)], 5)

    def test_no_sheet_of_the_n(self):
        for p in [-1, -4, 4, 5, FAR, -FAR]:
            self.plan(False, 4, TRACE, 6, 12, [(1, p)], 5)
        for p in range(4):
            self.plan(True, 4, TRACE, 6, 12, [(1, p)], 5)
        self.plan(False, 4, TRACE, 6, 12, [(1, 0), (2, 4), (3, 0)], 5)

    def test_a_tick_below_0(self):
        self.plan(False, 4, TRACE, 6, 12, [(-1, 0)], 5)
        self.plan(False, 4, TRACE, 6, 12, [(-FAR, 0), (1, 0)], 5)
        self.plan(True, 4, TRACE, 6, 12, [(0, 0)], 5)

    def test_a_tick_at_the_stop_or_behind_it(self):
        self.plan(True, 4, TRACE, 6, 12, [(4, 0)], 5)
        self.plan(False, 4, TRACE, 6, 12, [(5, 0)], 5)
        self.plan(False, 4, TRACE, 6, 12, [(1, 0), (6, 0)], 5)
        self.plan(False, 4, TRACE, 6, 12, [(0, 0)], 0)
        self.plan(True, 4, TRACE, 6, 12, [(FAR - 1, 0)], FAR)
        self.plan(False, 4, TRACE, 6, 12, [(FAR, 0)], FAR)

    def test_more_than_b_at_a_tick(self):
        for b in range(1, 7):
            just = [(3, p) for p in range(b)]
            self.plan(True, 7, [], b, 12, just, 5)
            self.plan(False, 7, [], b, 12, just + [(3, b)], 5)
            self.plan(True, 7, [], b, 12, just + [(4, b)], 5)
        self.plan(False, 4, [], 1, 12, [(0, 0), (1, 0), (1, 3), (2, 0)], 5)

    def test_more_than_s_left(self):
        self.plan(True, 4, TRACE, 1, 1, [(0, 2), (2, 1), (4, 0)], 5)
        self.plan(False, 4, TRACE, 1, 0, [(0, 2), (2, 1), (4, 0)], 5)
        # One written at the tick of its copying is left.
        self.plan(True, 4, TRACE, 1, 2, [(0, 2), (2, 1), (3, 0)], 5)
        self.plan(False, 4, TRACE, 1, 1, [(0, 2), (2, 1), (3, 0)], 5)
        self.plan(False, 4, TRACE, 1, 3, [], 0)
        self.plan(False, 1, [], 1, 0, [], FAR)

    def test_the_rounds_of_a_program(self):
        # All sheets, then the one written meanwhile: what point 8 copies is a plan.
        trace = [(), (1,), (), ()]
        self.plan(True, 3, trace, 1, 0, [(0, 0), (1, 1), (2, 2), (3, 1)], 4)
        self.plan(False, 3, trace, 1, 0, [(0, 0), (1, 1), (2, 2)], 3)


class TestOneByOne(PlanCase):
    def test_the_same(self):
        chance = random.Random(99)
        seen = []
        for _ in range(3000):
            n, b, s = chance.randint(1, 4), chance.randint(1, 3), chance.randint(0, 3)
            trace = [tuple(p for p in range(n) if chance.randrange(4) == 0) for _ in range(chance.randrange(7))]
            stop = chance.choice([-1, 0, 1, 2, 4, 5, 6, 7, 9, FAR])
            edge = chance.choice([0, 1])
            least, most = -chance.choice([0, 0, 0, 1]), min(stop, 8) - 1 + chance.choice([0, 0, 0, 1])
            copies = [
                (chance.randint(least, max(least, most)), chance.randint(0, n - 1 + edge * chance.randrange(2)))
                for _ in range(chance.randrange(7))
            ]
            if chance.randrange(4):
                copies = sorted(set(copies))
            plan = (copies, stop)
            answer = expected_plan(n, trace, b, s, plan)
            seen.append(answer)
            self.plan(answer, n, trace, b, s, copies, stop)
            self.left(copies, stop, expected_left(n, trace, plan), n, trace)
        self.assertGreater(seen.count(True), 100)
        self.assertGreater(seen.count(False), 100)


class TestHandedIn(unittest.TestCase):
    def test_told_list_is_the_askers_own(self):
        plan = ([(4, 0)], 6)
        first = left_by(4, TRACE, plan)
        first.clear()
        second = left_by(4, TRACE, plan)
        self.assertEqual(second, [1, 2, 3])
        second.append(0)
        self.assertEqual(left_by(4, TRACE, plan), [1, 2, 3])
        self.assertEqual(carried_by(4, TRACE, plan), 4)

    def test_what_is_handed_in_is_not_kept(self):
        copies, trace = [(4, 0)], list(TRACE)
        told = left_by(4, trace, (copies, 6))
        copies.append((5, 1))
        trace.append((0,))
        self.assertEqual(told, [1, 2, 3])
        self.assertEqual(left_by(4, trace, (copies, 6)), [2, 3])
        self.assertEqual(left_by(4, trace, (copies, 7)), [0, 2, 3])

    def test_by_their_names_in_another_order(self):
        plan = ([(0, 2), (2, 1), (4, 0)], 5)
        self.assertEqual(left_by(plan=plan, trace=TRACE, n=4), [3])
        self.assertEqual(carried_by(trace=TRACE, plan=plan, n=4), 4)
        self.assertIs(is_plan(plan=plan, s=1, b=2, trace=TRACE, n=4), True)
        self.assertIs(is_plan(b=2, s=0, n=4, plan=plan, trace=TRACE), False)


if __name__ == "__main__":
    unittest.main()
