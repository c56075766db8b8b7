import random
import unittest

from asking import AskingCase
from warmove.forever import ever, shows_never
from warmove.plans import carried_by, is_plan, left_by
from warmove.stops import bars, earliest, plan_for

FAR = 10 ** 39
ALL = (0, 1, 2, 3)


def needed(n, b):
    """Tell how many ticks n sheets need."""
    return n // b if n % b == 0 else n // b + 1


def long_trace(lead, ring, many):
    """Tell the trace of so many ticks, one by one."""
    return [lead[tick] if tick < len(lead) else ring[(tick - len(lead)) % len(ring)] for tick in range(many)]


class EverCase(AskingCase):
    def told(self, n, lead, ring, b, s):
        """Look over what is told, by a trace that goes round often; tell the stop or None."""
        told = self.asked(ever, n, lead, ring, b, s)
        self.assertIs(type(told), tuple)
        many = len(lead) + len(ring) + needed(n, b)
        trace = long_trace(lead, ring, many + 3 * len(ring) + 2 * n + 5)
        if told[0] == "stop":
            word, stop, copies = told
            self.whole(stop)
            self.assertEqual(earliest(n, trace, b, s)[:2], ("stop", stop))
            self.assertIs(is_plan(n, trace, b, s, (copies, stop)), True)
            self.assertEqual(carried_by(n, trace, (copies, stop)), n)
            sheets = [p for tick, p in copies]
            self.assertEqual(sorted(sheets + left_by(n, trace, (copies, stop))), list(range(n)))
            return stop
        word, shown = told
        self.assertEqual((word, type(shown), len(shown)), ("never", list, many))
        self.whole(*shown)
        for stop, t in enumerate(shown):
            self.assertIs(bars(n, trace, b, s, stop, t), True, (stop, t))
        # However long one waits: here some rings more.
        self.assertEqual(earliest(n, trace, b, s)[0], "barred")
        self.truth(True, shows_never, n, lead, ring, b, s, shown)
        return None


class TestEver(EverCase):
    def test_without_writings(self):
        for b in range(1, 7):
            for ring in ([()], [()] * 7):
                self.assertEqual(self.told(12, [], ring, b, 0), needed(12, b))
                self.assertEqual(self.told(5, [(0,)], ring, b, 0), needed(5, b) + (1 if b >= 5 else 0))

    def test_all_written_at_each_tick(self):
        for many in (1, 2, 5):
            for lead in ([], [ALL], [ALL] * 3):
                self.assertIsNone(self.told(4, lead, [ALL] * many, 1, 3))
        self.assertEqual(self.told(4, [], [ALL], 1, 4), 0)
        self.assertEqual(self.told(4, [()] * 9, [ALL], 1, 0), 4)
        self.assertEqual(self.told(4, [()] * 9, [ALL], 1, 2), 2)
        self.assertIsNone(self.told(4, [()] * 3, [ALL], 1, 0))

    def test_just_as_many_quiet_ticks_as_needed(self):
        for n in range(1, 7):
            everything = tuple(range(n))
            for b in range(1, 7):
                quiet = needed(n, b)
                for lead in ([], [everything], [everything] * 3):
                    ahead = len(lead) + 1
                    self.assertIsNone(self.told(n, lead, [everything] + [()] * (quiet - 1), b, 0))
                    for more in (0, 1):
                        ring = [everything] + [()] * (quiet + more)
                        self.assertEqual(self.told(n, lead, ring, b, 0), ahead + quiet)

    def test_one_fewer_quiet_where_some_may_be_left(self):
        ring = [ALL, (), ()]
        for s, answer in [(0, None), (1, None), (2, 3), (3, 2), (4, 0)]:
            self.assertEqual(self.told(4, [], ring, 1, s), answer)

    def test_quiet_over_the_end_of_the_ring(self):
        # Three quiet ticks: two at the ring's end and one at its beginning.
        ring = [(), ALL, (), ()]
        self.assertEqual(self.told(4, [ALL], ring, 2, 0), 5)
        self.assertEqual(self.told(3, [ALL[:3]], [(), ALL[:3], (), ()], 1, 0), 6)
        self.assertIsNone(self.told(4, [ALL], ring, 1, 0))

    def test_ring_of_one_tick(self):
        self.assertIsNone(self.told(3, [], [(1,)], 1, 0))
        self.assertEqual(self.told(3, [], [(1,)], 1, 1), 2)
        self.assertEqual(self.told(3, [(0, 2), (0, 2)], [(1,)], 2, 1), 1 + 2)

    def test_in_turn(self):
        # Each tick writes one of the sheets, and copies one.
        ring = [(0,), (1,), (2,)]
        self.assertIsNone(self.told(3, [], ring, 1, 0))
        self.assertEqual(self.told(3, [], ring, 1, 1), 2)
        self.assertIsNone(self.told(3, [ring[2]], ring, 2, 0))
        self.assertIsNone(self.told(3, [ring[2]], ring, 6, 0))

    def test_the_stop_is_in_the_last_place_where_it_can_be(self):
        # Where it is first quiet enough within the ring's second turn.
        ring = [()] + [ALL] + [()] * 3
        lead = [ALL] * 2
        self.assertEqual(self.told(4, lead, ring, 1, 0), 2 + 5 + 1)

    def test_of_300_ticks(self):
        lead = [tuple(range(12))] * 300
        quiet = [tuple(range(12))] * 288 + [()] * 12
        self.assertEqual(ever(12, lead, quiet, 1, 0)[:2], ("stop", 600))
        restless = quiet[:1] + quiet[:-1]
        told = self.asked(ever, 12, lead, restless, 1, 0)
        self.assertEqual((told[0], len(told[1])), ("never", 612))
        self.truth(True, shows_never, 12, lead, restless, 1, 0, told[1])
        self.assertEqual(ever(12, [()] * 300, [tuple(range(12))] * 300, 1, 0)[:2], ("stop", 12))

    def test_by_chance(self):
        chance = random.Random(12)
        stops = []
        for _ in range(500):
            n, b, s = chance.randint(1, 8), chance.randint(1, 6), chance.choice([0, 0, 1, 2])
            often = chance.choice([2, 3, 6])
            lead, ring = [
                [tuple(p for p in range(n) if chance.randrange(often) == 0) for _ in range(chance.randint(least, 6))]
                for least in (0, 1)
            ]
            stops.append(self.told(n, lead, ring, b, s))
        self.assertGreater(stops.count(None), 100)
        self.assertGreater(len(stops) - stops.count(None), 100)


class TestShowsNever(EverCase):
    CASES = [(4, [], [ALL], 1, 3), (4, [ALL, ()], [ALL, (), ()], 1, 0), (3, [(0,)], [(0,), (1,), (2,)], 2, 0)]

    def test_one_left_out_and_one_more(self):
        for case in self.CASES:
            shown = ever(*case)[1]
            self.truth(True, shows_never, *case, shown)
            self.truth(False, shows_never, *case, [])
            for at in range(len(shown)):
                self.truth(False, shows_never, *case, shown[:at] + shown[at + 1:])
            self.truth(False, shows_never, *case, shown[:-1])
            for more in [-1, 0, shown[-1], len(shown) - 1, len(shown)]:
                self.truth(False, shows_never, *case, shown + [more])

    def test_one_that_does_not_bar(self):
        for case in self.CASES:
            n, lead, ring, b, s = case
            shown = ever(*case)[1]
            trace = long_trace(lead, ring, len(shown) + 5)
            for at in range(len(shown)):
                for t in [-FAR, -2, -1, *range(at), at, at + 1, FAR]:
                    others = shown[:at] + [t] + shown[at + 1:]
                    self.truth(bars(n, trace, b, s, at, t), shows_never, *case, others)

    def test_where_there_is_a_stop(self):
        for b, s in [(1, 0), (2, 1), (6, 0)]:
            many = 2 + needed(3, b)
            for t in [-1, 0, many - 1, FAR, -FAR]:
                self.truth(False, shows_never, 3, [(0, 1, 2)], [()], b, s, [t] * many)
            self.truth(False, shows_never, 3, [(0, 1, 2)], [()], b, s, [stop - 1 for stop in range(many)])

    def test_never_both_a_stop_and_that_there_is_none(self):
        chance = random.Random(3)
        for _ in range(100):
            n, b, s = chance.randint(1, 3), chance.randint(1, 2), chance.randint(0, 1)
            lead, ring = [
                [tuple(p for p in range(n) if chance.randrange(2)) for _ in range(chance.randint(least, 3))]
                for least in (0, 1)
            ]
            many = len(lead) + len(ring) + needed(n, b)
            trace = long_trace(lead, ring, many)
            best = []
            for stop in range(many):
                found = plan_for(n, trace, b, s, stop)
                best.append(found[1] if found[0] == "barred" else -1)
            self.truth(ever(n, lead, ring, b, s)[0] == "never", shows_never, n, lead, ring, b, s, best)


class TestHandedIn(unittest.TestCase):
    def test_by_their_names_in_another_order(self):
        self.assertEqual(ever(s=0, b=1, ring=[()], lead=[(0,)], n=1), ("stop", 2, [(1, 0)]))
        told = ever(b=1, n=1, s=0, lead=[], ring=[(0,)])
        self.assertEqual(told, ("never", [-1, 0]))
        self.assertIs(shows_never(some=[-1, 0], s=0, b=1, ring=[(0,)], lead=[], n=1), True)
        self.assertIs(shows_never(some=[-1, 1], n=1, lead=[], ring=[(0,)], s=0, b=1), False)

    def test_traces_and_lists_are_not_kept(self):
        lead, ring = [(0,)], [(0,)]
        told = ever(1, lead, ring, 1, 0)
        ring[0] = ()
        self.assertEqual((told[0], len(told[1])), ("never", 3))
        self.assertEqual(ever(1, lead, ring, 1, 0), ("stop", 2, [(1, 0)]))

    def test_somewhat_beyond_the_bounds(self):
        sheets = tuple(range(14))
        self.assertEqual(ever(14, [sheets] * 310, [()] * 310, 7, 0)[:2], ("stop", 312))
        self.assertEqual(ever(14, [sheets] * 310, [sheets] * 310, 7, 13)[0], "never")
        # Nothing is promised here but that it is no error.
        ever(2, [], [(0,)], 0, 0)
        shows_never(2, [], [(0,)], 0, 0, [-1])
        ever(2, [(0,)], [], 1, 0)
        shows_never(2, [(0,)], [], 1, 0, [-1])


if __name__ == "__main__":
    unittest.main()
