import unittest

from warmove.programs import is_stand
from warmove.ticks import tick

ROWS = (
    ("set", 1, 4),
    ("add", 0, 2),
    ("add", 2, 0),
    ("add", 1, 1),
    ("jump", 0, 7),
    ("jump", 0, 5),
    ("jump", 2, 0),
    ("say", 2),
    ("take", 1),
    ("end",),
    ("set", 2, 0),
)
PROGRAM = (3, 7, ROWS)


class TickCase(unittest.TestCase):
    def told(self, at, sheets, letters, expected):
        """Look over the whole answer, that it is told again the same, and that the letters stay."""
        lying = list(letters)
        for _ in range(2):
            told = tick(PROGRAM, (at, sheets), lying)
            self.assertEqual(told, expected)
            self.assert_plain(told)
            self.assertEqual(lying, letters)

    def assert_plain(self, told):
        stand, word, number, reads, writes = told
        self.assertIs(type(told), tuple)
        self.assertIs(is_stand(PROGRAM, stand), True)
        self.assertIs(type(word), str)
        self.assertIn(type(number), [int, type(None)])
        self.assertIs(type(reads), tuple)
        self.assertIs(type(writes), tuple)


class TestSet(TickCase):
    def test_holds_the_number(self):
        self.told(0, (1, 2, 3), [], ((1, (1, 4, 3)), "did", None, (), (1,)))

    def test_the_number_that_it_held_is_written_too(self):
        self.told(0, (1, 4, 3), [], ((1, (1, 4, 3)), "did", None, (), (1,)))

    def test_leaves_letters_alone(self):
        self.told(0, (1, 2, 3), [5, 6], ((1, (1, 4, 3)), "did", None, (), (1,)))

    def test_last_row_leads_behind_all_rows(self):
        self.told(10, (1, 2, 3), [], ((11, (1, 2, 0)), "did", None, (), (2,)))


class TestAdd(TickCase):
    def test_sum_of_two(self):
        self.told(1, (1, 2, 3), [], ((2, (4, 2, 3)), "did", None, (0, 2), (0,)))

    def test_reads_rise_in_either_order(self):
        self.told(2, (1, 2, 3), [], ((3, (1, 2, 4)), "did", None, (0, 2), (2,)))

    def test_sum_goes_round_the_wheel(self):
        self.told(1, (5, 2, 4), [], ((2, (2, 2, 4)), "did", None, (0, 2), (0,)))
        self.told(1, (6, 2, 6), [], ((2, (5, 2, 6)), "did", None, (0, 2), (0,)))

    def test_sum_of_the_whole_wheel_is_0(self):
        self.told(2, (3, 2, 4), [], ((3, (3, 2, 0)), "did", None, (0, 2), (2,)))

    def test_sheet_to_itself_is_read_once(self):
        self.told(3, (1, 2, 3), [], ((4, (1, 4, 3)), "did", None, (1,), (1,)))
        self.told(3, (1, 5, 3), [], ((4, (1, 3, 3)), "did", None, (1,), (1,)))

    def test_nothing_added_is_written_too(self):
        self.told(1, (1, 2, 0), [], ((2, (1, 2, 0)), "did", None, (0, 2), (0,)))

    def test_wheel_of_2(self):
        program = (2, 2, (("add", 0, 1),))
        self.assertEqual(tick(program, (0, (1, 1)), []), ((1, (0, 1)), "did", None, (0, 1), (0,)))
        self.assertEqual(tick(program, (0, (0, 1)), []), ((1, (1, 1)), "did", None, (0, 1), (0,)))

    def test_reads_of_great_numbers_rise_as_numbers(self):
        program = (12, 100, (("add", 10, 9),))
        sheets = tuple(range(88, 100))
        behind = (1, sheets[:10] + (95, 99))
        self.assertEqual(tick(program, (0, sheets), []), (behind, "did", None, (9, 10), (10,)))


class TestJump(TickCase):
    def test_where_it_holds_0(self):
        self.told(4, (0, 2, 3), [], ((7, (0, 2, 3)), "did", None, (0,), ()))

    def test_where_it_does_not(self):
        for number in range(1, 7):
            self.told(4, (number, 0, 0), [], ((5, (number, 0, 0)), "did", None, (0,), ()))

    def test_to_its_own_row(self):
        self.told(5, (0, 2, 3), [], ((5, (0, 2, 3)), "did", None, (0,), ()))
        self.told(5, (1, 2, 3), [], ((6, (1, 2, 3)), "did", None, (0,), ()))

    def test_to_a_row_ahead(self):
        self.told(6, (1, 2, 0), [4], ((0, (1, 2, 0)), "did", None, (2,), ()))

    def test_from_the_last_row(self):
        program = (1, 2, (("jump", 0, 0),))
        self.assertEqual(tick(program, (0, (1,)), []), ((1, (1,)), "did", None, (0,), ()))
        self.assertEqual(tick(program, (0, (0,)), []), ((0, (0,)), "did", None, (0,), ()))


class TestSay(TickCase):
    def test_says_what_the_sheet_holds(self):
        self.told(7, (1, 2, 3), [], ((8, (1, 2, 3)), "said", 3, (2,), ()))

    def test_says_0(self):
        self.told(7, (1, 2, 0), [5], ((8, (1, 2, 0)), "said", 0, (2,), ()))


class TestTake(TickCase):
    def test_waits_where_none_lies_there(self):
        self.told(8, (1, 2, 3), [], ((8, (1, 2, 3)), "waits", None, (), ()))

    def test_takes_the_one(self):
        self.told(8, (1, 2, 3), [5], ((9, (1, 5, 3)), "took", 5, (), (1,)))

    def test_takes_the_first_of_several(self):
        self.told(8, (1, 2, 3), [6, 0, 5], ((9, (1, 6, 3)), "took", 6, (), (1,)))

    def test_takes_0(self):
        self.told(8, (1, 2, 3), [0], ((9, (1, 0, 3)), "took", 0, (), (1,)))
        self.told(8, (1, 2, 3), [0, 4], ((9, (1, 0, 3)), "took", 0, (), (1,)))


class TestEnd(TickCase):
    def test_end_row(self):
        self.told(9, (1, 2, 3), [], ((9, (1, 2, 3)), "ended", None, (), ()))
        self.told(9, (1, 2, 3), [4], ((9, (1, 2, 3)), "ended", None, (), ()))

    def test_behind_the_last_row(self):
        self.told(11, (1, 2, 3), [], ((11, (1, 2, 3)), "ended", None, (), ()))
        self.told(11, (1, 2, 3), [4, 5], ((11, (1, 2, 3)), "ended", None, (), ()))


class TestHandedIn(unittest.TestCase):
    def test_by_their_names_in_another_order(self):
        told = tick(letters=[5], stand=(8, (1, 2, 3)), program=PROGRAM)
        self.assertEqual(told, ((9, (1, 5, 3)), "took", 5, (), (1,)))

    def test_letters_are_not_kept(self):
        letters = [5, 6]
        told = tick(PROGRAM, (8, (1, 2, 3)), letters)
        letters.clear()
        self.assertEqual(told, ((9, (1, 5, 3)), "took", 5, (), (1,)))
        self.assertEqual(tick(PROGRAM, (8, (1, 2, 3)), letters)[1], "waits")

    def test_ticks_one_behind_the_other(self):
        # It says the double of each letter.
        program = (1, 10, (("take", 0), ("add", 0, 0), ("say", 0), ("set", 0, 0), ("jump", 0, 0)))
        stand, letters, said, words = (0, (0,)), [3, 7], [], []
        for _ in range(12):
            stand, word, number, reads, writes = tick(program, stand, letters)
            words.append(word)
            if word == "took":
                letters.pop(0)
            if word == "said":
                said.append(number)
        self.assertEqual(said, [6, 4])
        self.assertEqual(words, ["took", "did", "said", "did", "did"] * 2 + ["waits", "waits"])
        self.assertEqual(stand, (0, (0,)))


if __name__ == "__main__":
    unittest.main()
