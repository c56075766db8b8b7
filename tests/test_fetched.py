import itertools
import random
import time
import unittest

from asking import AskingCase
from warmove.fetched import asked_for, fetched, least_lost
from warmove.runs import touches as touches_of


def expected(n, touches, order, asking):
    """Tell it tick by tick: first the deed, then what comes."""
    came, written, ticks, lost = [], [], [], 0
    for tick in itertools.count():
        if len(ticks) == len(touches):
            return (ticks, lost)
        reads, writes = touches[len(ticks)]
        absent = [p for p in range(n) if p not in came and p not in written]
        lacking = [p for p in absent if p in reads]
        if lacking:
            lost += 1
        else:
            ticks.append(tick)
            written.extend(writes)
            absent = [p for p in absent if p not in writes]
        if lacking and asking:
            came.append(min(lacking))
        elif absent:
            came.append(min(absent, key=order.index))


def needs_up_to(touches, deed):
    """Tell how many unlike sheets the deeds up to this one read that weren't written by a deed ahead."""
    found = set()
    for at, (reads, writes) in enumerate(touches[:deed + 1]):
        for p in reads:
            if not any(p in other for _, other in touches[:at]):
                found.add(p)
    return len(found)


def some_touches(chance, n, most):
    often = chance.choice([1, 2, 4])
    return [
        tuple(tuple(p for p in range(n) if chance.randrange(often + 2) == 0) for _ in range(2))
        for _ in range(chance.randint(0, most))
    ]


class FetchedCase(AskingCase):
    def pair(self, ask, n, touches, order, answer):
        """Look over what is told of an order."""
        told = self.asked(ask, n, touches, order)
        self.assertEqual(told, answer)
        self.assertEqual([type(told), type(told[0])], [tuple, list])
        self.whole(told[1], *told[0])

    def least(self, n, touches):
        """Look over the order that is told, and what shows that none loses fewer; tell how many are lost."""
        told = self.asked(least_lost, n, touches)
        self.assertIs(type(told), tuple)
        order, lost, deed = told
        self.assertIs(type(order), list)
        self.whole(lost, *order)
        self.assertEqual(sorted(order), list(range(n)))
        self.assertEqual(expected(n, touches, order, False)[1], lost)
        if lost == 0:
            self.assertIsNone(deed)
        else:
            self.whole(deed)
            self.assertIn(deed, range(len(touches)))
            self.assertEqual(needs_up_to(touches, deed), lost + deed)
        return lost


class TestFetched(FetchedCase):
    def told(self, n, touches, order, ticks, lost):
        self.pair(fetched, n, touches, order, (ticks, lost))

    def test_no_touches(self):
        self.told(3, [], [2, 0, 1], [], 0)
        self.told(1, [], [0], [], 0)

    def test_a_deed_that_reads_nothing(self):
        self.told(2, [((), ())], [0, 1], [0], 0)
        self.told(2, [((), ()), ((), (1,)), ((), ())], [1, 0], [0, 1, 2], 0)

    def test_one_that_comes_at_the_tick_of_the_deed_is_too_late(self):
        self.told(1, [((0,), ())], [0], [1], 1)
        self.told(2, [((), ()), ((0,), ())], [0, 1], [0, 1], 0)
        self.told(2, [((), ()), ((0,), ())], [1, 0], [0, 2], 1)
        self.told(3, [((1,), ())], [0, 2, 1], [3], 3)

    def test_written_ahead_of_being_read(self):
        self.told(3, [((), (2,)), ((2,), ())], [0, 1, 2], [0, 1], 0)
        self.told(3, [((), (2,)), ((2,), ()), ((0, 2), ())], [1, 2, 0], [0, 1, 2], 0)

    def test_read_by_the_deed_that_writes_it(self):
        self.told(2, [((1,), (1,))], [0, 1], [2], 2)

    def test_a_written_one_comes_no_more(self):
        # Sheet 0 is written at tick 0, so sheet 1 comes at that tick.
        self.told(3, [((), (0,)), ((1,), ()), ((2,), ())], [0, 1, 2], [0, 1, 2], 0)
        self.told(3, [((), (0, 1)), ((2,), ())], [0, 1, 2], [0, 1], 0)

    def test_written_ones_that_were_there_already(self):
        self.told(2, [((), ()), ((), (0,)), ((0, 1), ())], [0, 1], [0, 1, 2], 0)

    def test_several_deeds_with_lost_ticks_between(self):
        deeds = [((0,), ()), ((1,), ()), ((2,), ()), ((), ())]
        self.told(3, deeds, [0, 1, 2], [1, 2, 3, 4], 1)
        self.told(3, deeds, [2, 1, 0], [3, 4, 5, 6], 3)
        self.told(3, deeds, [0, 2, 1], [1, 3, 4, 5], 2)
        self.told(3, deeds, [1, 0, 2], [2, 3, 4, 5], 2)

    def test_several_read_at_once(self):
        self.told(4, [((0, 1, 2, 3), (0,)), ((0, 3), ())], [3, 2, 1, 0], [4, 5], 4)

    def test_when_all_are_there(self):
        self.told(1, [((0,), (0,))] * 5, [0], [1, 2, 3, 4, 5], 1)

    def test_tick_by_tick(self):
        chance = random.Random(13)
        seen = set()
        for _ in range(1500):
            n = chance.randint(1, 12)
            touches = some_touches(chance, n, 9)
            order = chance.sample(range(n), n)
            answer = expected(n, touches, order, False)
            seen.add(answer[1])
            self.pair(fetched, n, touches, order, answer)
        self.assertTrue({0, 1, 2, 3, 12}.issubset(seen))

    def test_the_touches_of_a_run(self):
        program = (3, 10, (("set", 0, 5), ("add", 1, 0), ("say", 2), ("jump", 1, 0), ("end",)))
        touches = touches_of(program, (0, (0, 0, 7)), [], 6)
        self.told(3, touches, [0, 1, 2], [0, 1, 2, 3, 4, 5], 0)
        self.told(3, touches, [2, 0, 1], [0, 2, 3, 4, 5, 6], 1)


class TestAskedFor(FetchedCase):
    def told(self, n, touches, order, ticks, lost):
        self.pair(asked_for, n, touches, order, (ticks, lost))

    def test_no_touches(self):
        self.told(3, [], [2, 0, 1], [], 0)

    def test_in_the_place_of_the_orders(self):
        self.told(3, [((2,), ())], [0, 1, 2], [1], 1)
        self.told(3, [((1,), ())], [0, 2, 1], [1], 1)

    def test_one_at_each_lost_tick(self):
        # Sheet 1 comes at tick 0, the order's 3 behind the deed at tick 1, and 2 at tick 2.
        self.told(4, [((1,), ()), ((2,), ())], [3, 2, 0, 1], [1, 3], 2)
        deeds = [((1, 2), ()), ((0,), ())]
        self.told(4, deeds, [0, 1, 2, 3], [2, 3], 2)
        self.told(4, deeds, [3, 0, 1, 2], [2, 4], 3)

    def test_the_orders_where_no_tick_is_lost(self):
        self.told(3, [((), ()), ((2,), ())], [2, 1, 0], [0, 1], 0)
        self.told(3, [((), ()), ((2,), ())], [1, 0, 2], [0, 2], 1)

    def test_a_written_one_comes_no_more(self):
        self.told(3, [((), (0,)), ((1,), ())], [0, 1, 2], [0, 1], 0)

    def test_tick_by_tick(self):
        chance = random.Random(14)
        unlike = 0
        for _ in range(1500):
            n = chance.randint(1, 12)
            touches = some_touches(chance, n, 9)
            order = chance.sample(range(n), n)
            answer = expected(n, touches, order, True)
            unlike += answer != fetched(n, touches, order)
            self.pair(asked_for, n, touches, order, answer)
        self.assertGreater(unlike, 200)


class TestLeastLost(FetchedCase):
    def test_no_touches(self):
        self.assertEqual(self.least(4, []), 0)

    def test_none_lost(self):
        self.assertEqual(self.least(2, [((), ()), ((1,), ()), ((0,), ())]), 0)
        self.assertEqual(self.least(3, [((), (0, 1, 2)), ((0, 1, 2), ())]), 0)

    def test_some_lost(self):
        self.assertEqual(self.least(3, [((2,), ()), ((1,), ()), ((0,), ())]), 1)
        self.assertEqual(self.least(3, [((0, 1, 2), ())]), 3)
        self.assertEqual(self.least(3, [((0,), ()), ((), ()), ((1, 2), ())]), 1)
        self.assertEqual(self.least(4, [((), ()), ((0, 1, 2, 3), ()), ((), ())]), 3)

    def test_read_and_written_by_one_deed(self):
        self.assertEqual(self.least(2, [((0,), (0,)), ((0, 1), (1,))]), 1)

    def test_unlike_ones_only(self):
        self.assertEqual(self.least(2, [((0,), ()), ((0,), ()), ((0, 1), ())]), 1)

    def test_small_ones_by_all_orders(self):
        chance = random.Random(15)
        seen = set()
        for _ in range(600):
            n = chance.randint(1, 5)
            touches = some_touches(chance, n, 6)
            lost = self.least(n, touches)
            orders = [list(order) for order in itertools.permutations(range(n))]
            self.assertEqual(lost, min(fetched(n, touches, order)[1] for order in orders))
            seen.add(lost)
        self.assertTrue({0, 1, 2, 3}.issubset(seen))

    def test_told_soon(self):
        chance = random.Random(16)
        touches = [
            (tuple(p for p in range(12) if chance.randrange(90) == 0), tuple(p for p in range(12) if p % 5 == 0))
            for _ in range(2000)
        ]
        begun = time.process_time()
        self.least(12, touches)
        self.assertLess(time.process_time() - begun, 20)


class TestHandedIn(unittest.TestCase):
    def test_nothing_is_kept(self):
        touches, order = [((1,), ())], [0, 1]
        told = fetched(2, touches, order), asked_for(2, touches, order), least_lost(2, touches)
        touches.append(((0,), ()))
        order.reverse()
        self.assertEqual(told, (([2], 2), ([1], 1), ([1, 0], 1, 0)))
        self.assertEqual(fetched(2, touches, order), ([1, 2], 1))

    def test_by_their_names_in_another_order(self):
        self.assertEqual(fetched(order=[0, 1], touches=[((1,), ())], n=2), ([2], 2))
        self.assertEqual(asked_for(touches=[((1,), ())], order=[0, 1], n=2), ([1], 1))
        self.assertEqual(least_lost(touches=[((1,), ())], n=2), ([1, 0], 1, 0))

    def test_somewhat_beyond_the_bounds(self):
        every = tuple(range(14))
        self.assertEqual(fetched(14, [(every, every)] * 2100, list(every))[1], 14)
        self.assertEqual(asked_for(14, [(every, every)] * 2100, list(every))[1], 14)
        self.assertEqual(least_lost(14, [(every, every)] * 2100)[1:], (14, 0))


if __name__ == "__main__":
    unittest.main()
