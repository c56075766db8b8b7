import unittest

from anything import ANYTHING, NO_NUMBERS
from warmove.programs import is_stand

PROGRAM = (3, 5, (("set", 0, 1), ("end",)))
SMALLEST = (1, 2, (("end",),))
GREATEST = (12, 100, (("end",),) * 20)


class StandCase(unittest.TestCase):
    def yes(self, thing, program=PROGRAM):
        self.assertIs(is_stand(program, thing), True, thing)

    def no(self, thing, program=PROGRAM):
        self.assertIs(is_stand(program, thing), False, thing)


class TestStands(StandCase):
    def test_at_from_0_to_how_many_rows_there_are(self):
        for at in range(3):
            self.yes((at, (0, 0, 0)))
        for at in range(2):
            self.yes((at, (0,)), SMALLEST)
        for at in range(21):
            self.yes((at, (0,) * 12), GREATEST)

    def test_at_out_of_bounds(self):
        for at in [-1, -2, -3, 3, 4, 10 ** 59, -(10 ** 59)]:
            self.no((at, (0, 0, 0)))
        self.no((2, (0,)), SMALLEST)
        self.no((21, (0,) * 12), GREATEST)

    def test_each_sheet_at_its_least_and_its_greatest(self):
        self.yes((0, (0, 4, 0)))
        self.yes((0, (4, 4, 4)))
        self.yes((0, (4, 0, 3)))
        self.yes((0, (1,)), SMALLEST)
        self.yes((0, (99,) * 12), GREATEST)

    def test_each_sheet_out_of_bounds(self):
        for place in range(3):
            for number in [-1, 5, 6, -5, 10 ** 59, -(10 ** 59)]:
                sheets = [0, 0, 0]
                sheets[place] = number
                self.no((0, tuple(sheets)))
        self.no((0, (2,)), SMALLEST)
        self.no((0, (99,) * 11 + (100,)), GREATEST)

    def test_no_numbers_in_the_place_of_at(self):
        for thing in NO_NUMBERS:
            self.no((thing, (0, 0, 0)))

    def test_no_numbers_in_the_place_of_each_sheet(self):
        for place in range(3):
            for thing in NO_NUMBERS:
                sheets = [0, 0, 0]
                sheets[place] = thing
                self.no((0, tuple(sheets)))

    def test_a_sheet_more_or_fewer(self):
        for many in [0, 1, 2, 4, 5, 12]:
            self.no((0, (0,) * many))
        for many in [0, 2]:
            self.no((0, (0,) * many), SMALLEST)
        for many in [11, 13]:
            self.no((0, (0,) * many), GREATEST)

    def test_lists_in_the_place_of_tuples(self):
        self.no([0, (0, 0, 0)])
        self.no((0, [0, 0, 0]))
        self.no([0, [0, 0, 0]])

    def test_a_part_more_or_fewer(self):
        for thing in [(), (0,), ((0, 0, 0),), (0, (0, 0, 0), 0), (0, (0, 0, 0), None), (0, 0, 0, 0)]:
            self.no(thing)

    def test_no_tuple_in_the_place_of_the_sheets(self):
        for thing in [0, None, True, "000", "", [], (), ((0, 0, 0),)]:
            self.no((0, thing))

    def test_at_and_sheets_the_other_way_round(self):
        self.no(((0, 0, 0), 0))

    def test_other_things(self):
        for thing in ANYTHING:
            self.no(thing)

    def test_other_things_as_sheets(self):
        # None of these things is a tuple of seven.
        program = (7, 5, (("end",),))
        self.yes((0, (0,) * 7), program)
        for thing in ANYTHING:
            self.no((0, thing), program)

    def test_other_things_as_numbers(self):
        for thing in ANYTHING:
            if type(thing) is not int:
                self.no((thing, (0, 0, 0)))
                self.no((0, (0, 0, thing)))

    def test_told_again_the_same_and_nothing_changed(self):
        sheets = [0, [0], 0]
        for _ in range(2):
            self.no((0, sheets))
            self.yes((0, (0, 0, 0)))
        self.assertEqual(sheets, [0, [0], 0])

    def test_by_their_names_in_another_order(self):
        self.assertIs(is_stand(thing=(2, (0, 4, 0)), program=PROGRAM), True)
        self.assertIs(is_stand(thing=PROGRAM, program=PROGRAM), False)

    def test_of_no_program_there_is_no_stand(self):
        for thing in [(0, 2, (("end",),)), (1, 2, ()), None, []]:
            self.no((0, (0,)), thing)


if __name__ == "__main__":
    unittest.main()
