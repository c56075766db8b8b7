import random
import unittest

from warmove.errors import MoveError, TooMany
from warmove.rings import round_of
from warmove.ticks import tick

SAY = (("say", 0),)
# Where sheet 0 counts by sheet 1 from 0 up to 0 again, sheet 2 holding 0 for jumps that always jump.
START = (0, 1, 0)


def counting(w, size, tail):
    """Tell a program of loops of size ticks, w of them, the last one of just 2; then the tail."""
    loop = (("add", 0, 1), ("jump", 0, size)) + SAY * (size - 3) + (("jump", 2, 0),)
    return (3, w, loop + tail)


def circling(w, size, lead):
    """Tell a program that goes round by w loops of size ticks, behind a lead of so many."""
    return (3, w, SAY * lead + (("add", 0, 1),) + SAY * (size - 2) + (("jump", 2, lead),))


def expected(program, stand):
    """Tell, by all stands of 2500 ticks, the least numbers that fit, or None where they are too great."""
    stands = [stand]
    for many in range(2500):
        behind, word, *_ = tick(program, stands[-1], [])
        if word == "ended":
            return ("ends", many) if many <= 1000 else None
        stands.append(behind)
    for lead in range(1001):
        for ring in range(1, 1001 - lead):
            if stands[lead] == stands[lead + ring]:
                return ("round", lead, ring)
    return None


class RingCase(unittest.TestCase):
    def told(self, program, stand, answer):
        for _ in range(2):
            told = round_of(program, stand)
            self.assertEqual(told, answer)
            self.assertIs(type(told), tuple)
            self.assertEqual([type(part) for part in told], [str] + [int] * (len(told) - 1))

    def refused(self, program, stand):
        for _ in range(2):
            with self.assertRaises(TooMany) as caught:
                round_of(program, stand)
            self.assertIsInstance(caught.exception, MoveError)


class TestEnds(RingCase):
    def test_at_once(self):
        self.told((1, 2, (("end",),)), (0, (0,)), ("ends", 0))
        self.told((1, 2, (("end",),)), (1, (1,)), ("ends", 0))
        self.told((1, 2, SAY * 20), (20, (1,)), ("ends", 0))
        self.told((2, 5, SAY + (("end",),) + SAY), (1, (4, 3)), ("ends", 0))

    def test_behind_some_ticks(self):
        for at in range(21):
            self.told((1, 2, SAY * 20), (at, (1,)), ("ends", 20 - at))
        self.told((1, 2, SAY * 4 + (("end",),) + SAY * 3), (1, (1,)), ("ends", 3))

    def test_by_a_jump(self):
        program = (2, 3, (("jump", 0, 3), ("say", 0), ("say", 0), ("set", 0, 1), ("end",)))
        self.told(program, (0, (0, 0)), ("ends", 2))
        self.told(program, (0, (1, 0)), ("ends", 4))

    def test_behind_loops(self):
        self.told(counting(2, 3, ()), (0, START), ("ends", 5))
        self.told(counting(100, 3, ()), (0, START), ("ends", 299))

    def test_an_end_is_no_round(self):
        # What has ended stands as it stood, for ever.
        self.told((1, 2, SAY), (0, (0,)), ("ends", 1))

    def test_just_1000(self):
        self.told(counting(100, 10, SAY * 8), (0, START), ("ends", 1000))
        self.told(counting(100, 10, SAY * 8 + (("end",),)), (0, START), ("ends", 1000))
        self.told(counting(100, 10, SAY * 7), (0, START), ("ends", 999))

    def test_one_more_is_refused(self):
        self.refused(counting(100, 10, SAY * 9), (0, START))
        self.refused(counting(100, 10, SAY * 9 + (("end",),)), (0, START))

    def test_far_more_is_refused(self):
        self.refused(counting(100, 20, ()), (0, START))


class TestRounds(RingCase):
    def test_lead_0_and_ring_1(self):
        self.told((1, 2, (("jump", 0, 0),)), (0, (0,)), ("round", 0, 1))

    def test_lead_0_and_a_longer_ring(self):
        self.told((2, 2, (("say", 0), ("jump", 1, 0))), (0, (1, 0)), ("round", 0, 2))
        self.told(circling(5, 4, 0), (0, START), ("round", 0, 20))

    def test_from_within_the_ring(self):
        for at in range(4):
            self.told(circling(5, 4, 0), (at, (3, 1, 0)), ("round", 0, 20))

    def test_a_longer_lead(self):
        self.told(circling(5, 4, 3), (0, START), ("round", 3, 20))
        self.told(circling(5, 4, 3), (2, START), ("round", 1, 20))
        self.told((1, 2, SAY * 19 + (("jump", 0, 19),)), (0, (0,)), ("round", 19, 1))

    def test_the_same_row_with_other_numbers_is_no_ring(self):
        # The sheet holds 1, 2, 4, 8, 4, 8, ..
        program = (2, 12, (("add", 0, 0), ("jump", 1, 0)))
        self.told(program, (0, (1, 0)), ("round", 3, 4))

    def test_the_same_numbers_at_another_row_are_no_ring(self):
        program = (2, 12, (("say", 0), ("say", 0), ("say", 0), ("jump", 1, 1)))
        self.told(program, (0, (1, 0)), ("round", 1, 3))

    def test_written_numbers_that_stay(self):
        self.told((2, 12, (("set", 0, 7), ("jump", 1, 0))), (0, (1, 0)), ("round", 1, 2))
        self.told((2, 12, (("set", 0, 7), ("jump", 1, 0))), (0, (7, 0)), ("round", 0, 2))

    def test_just_1000(self):
        self.told(circling(100, 10, 0), (0, START), ("round", 0, 1000))
        self.told(circling(99, 10, 10), (0, START), ("round", 10, 990))
        self.told(circling(99, 10, 10), (1, START), ("round", 9, 990))
        self.told(counting(100, 10, SAY * 7 + (("jump", 2, 17),)), (0, START), ("round", 999, 1))

    def test_one_more_is_refused(self):
        self.refused(circling(91, 11, 0), (0, START))
        self.refused(circling(100, 10, 1), (0, START))
        self.refused(counting(100, 10, SAY * 8 + (("jump", 2, 18),)), (0, START))

    def test_far_more_is_refused(self):
        self.refused(circling(100, 20, 0), (0, START))
        self.refused(circling(100, 11, 9), (0, START))


class TestByStands(RingCase):
    def test_the_least_of_all_that_fit(self):
        chance = random.Random(7)
        seen = set()
        for _ in range(400):
            n, w, many = chance.randint(1, 3), chance.randint(2, 13), chance.randint(1, 7)
            rows = []
            for _ in range(many):
                p, q = chance.randrange(n), chance.randrange(n)
                jump = ("jump", p, chance.randrange(many))
                rows.append(chance.choice([("set", p, chance.randrange(w)), ("add", p, q), jump, jump, ("say", p)]))
            program = (n, w, tuple(rows))
            stand = (chance.randint(0, many), tuple(chance.randrange(w) for _ in range(n)))
            answer = expected(program, stand)
            if answer is None:
                self.refused(program, stand)
                continue
            self.told(program, stand, answer)
            seen.add(answer[0])
        self.assertEqual(seen, {"ends", "round"})

    def test_at_the_bound(self):
        for tail in range(6, 11):
            answer = expected(counting(100, 10, SAY * tail), (0, START))
            if tail <= 8:
                self.told(counting(100, 10, SAY * tail), (0, START), answer)
            else:
                self.assertIsNone(answer)
                self.refused(counting(100, 10, SAY * tail), (0, START))


class TestHandedIn(unittest.TestCase):
    def test_by_their_names_in_another_order(self):
        self.assertEqual(round_of(stand=(0, (1,)), program=(1, 2, SAY)), ("ends", 1))
        self.assertEqual(round_of(program=(1, 2, (("jump", 0, 0),)), stand=(0, (0,))), ("round", 0, 1))


if __name__ == "__main__":
    unittest.main()
