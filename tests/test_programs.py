import unittest

from anything import ANYTHING, NO_NUMBERS
from warmove.programs import is_program

END = (("end",),)
SIX_KINDS = (("set", 1, 4), ("add", 0, 2), ("jump", 2, 5), ("say", 0), ("take", 1), ("end",))

# Over 3 sheets, a wheel of 5 and 6 rows: each kind of row with the bounds of its parts.
BOUNDS = [("set", (3, 5)), ("add", (3, 3)), ("jump", (3, 6)), ("say", (3,)), ("take", (3,)), ("end", ())]


def with_row(row, many=6):
    """Tell a program's tuple over 3 sheets and a wheel of 5, with this row behind many - 1 end rows."""
    return (3, 5, END * (many - 1) + (row,))


class ProgramCase(unittest.TestCase):
    def yes(self, thing):
        self.assertIs(is_program(thing), True, thing)

    def no(self, thing):
        self.assertIs(is_program(thing), False, thing)


class TestPrograms(ProgramCase):
    def test_least_and_greatest_sheets(self):
        for n in range(1, 13):
            self.yes((n, 2, END))
            self.yes((n, 2, (("say", n - 1),)))

    def test_least_and_greatest_wheel(self):
        for w in range(2, 101):
            self.yes((1, w, END))
            self.yes((1, w, (("set", 0, w - 1),)))

    def test_one_to_twenty_rows(self):
        for many in range(1, 21):
            self.yes((1, 2, END * many))
            self.yes((1, 2, (("jump", 0, many - 1),) * many))

    def test_each_of_the_six_kinds(self):
        self.yes((3, 5, SIX_KINDS))
        for row in SIX_KINDS:
            self.yes(with_row(row))

    def test_add_of_a_sheet_to_itself(self):
        self.yes(with_row(("add", 2, 2)))

    def test_each_part_at_its_least_and_its_greatest(self):
        for word, bounds in BOUNDS:
            self.yes(with_row((word,) + (0,) * len(bounds)))
            self.yes(with_row((word,) + tuple(bound - 1 for bound in bounds)))

    def test_all_at_its_greatest(self):
        rows = (("set", 11, 99), ("add", 11, 11), ("jump", 11, 19), ("say", 11), ("take", 11)) * 4
        self.yes((12, 100, rows))


class TestOutOfBounds(ProgramCase):
    def test_sheets(self):
        for n in [0, 13, -1, -12, 10 ** 59]:
            self.no((n, 2, END))

    def test_wheel(self):
        for w in [1, 101, 0, -2, 10 ** 59]:
            self.no((1, w, END))

    def test_rows(self):
        self.no((1, 2, ()))
        self.no((1, 2, END * 21))

    def test_each_part_below_0_and_beyond(self):
        for word, bounds in BOUNDS:
            for place, bound in enumerate(bounds):
                for part in [-1, bound, bound + 1, -bound, 10 ** 59, -(10 ** 59)]:
                    parts = [0] * len(bounds)
                    parts[place] = part
                    self.no(with_row((word, *parts)))

    def test_bounds_are_those_of_this_program(self):
        self.no((1, 2, (("say", 1),)))
        self.no((12, 2, (("set", 0, 2),)))
        self.no((1, 100, (("set", 1, 1),)))
        self.no((12, 100, (("jump", 0, 1),)))
        self.no((12, 100, (("jump", 0, 19),) * 19))

    def test_one_wrong_row_anywhere(self):
        for place in range(6):
            rows = list(SIX_KINDS)
            rows[place] = ("say", 3)
            self.no((3, 5, tuple(rows)))


class TestNoNumbers(ProgramCase):
    def test_in_the_place_of_sheets_and_wheel(self):
        for thing in NO_NUMBERS:
            self.no((thing, 2, END))
            self.no((1, thing, END))

    def test_a_text_or_a_list_of_the_right_number(self):
        for thing in ["2", [2], (2,)]:
            self.no((thing, 2, END))
            self.no((1, thing, END))

    def test_in_the_place_of_each_part(self):
        for word, bounds in BOUNDS:
            for place in range(len(bounds)):
                for thing in NO_NUMBERS:
                    parts = [0] * len(bounds)
                    parts[place] = thing
                    self.no(with_row((word, *parts)))


class TestShapes(ProgramCase):
    def test_a_part_more_or_fewer(self):
        for word, bounds in BOUNDS:
            right = (word,) + (0,) * len(bounds)
            self.yes(with_row(right))
            self.no(with_row(right[:-1]))
            self.no(with_row(right + (0,)))
            self.no(with_row(right + (0, 0)))
            self.no(with_row(right + (None,)))

    def test_a_row_without_its_word(self):
        for row in [(), (0,), (0, 0), (0, 0, 0)]:
            self.no(with_row(row))

    def test_program_with_a_part_more_or_fewer(self):
        self.no((1, 2))
        self.no((1, END))
        self.no((1, 2, END, END))
        self.no((1, 2, END, None))
        self.no((1,))
        self.no(())

    def test_lists_in_the_place_of_tuples(self):
        self.no([3, 5, SIX_KINDS])
        self.no((3, 5, list(SIX_KINDS)))
        for place in range(6):
            rows = list(SIX_KINDS)
            rows[place] = list(rows[place])
            self.no((3, 5, tuple(rows)))

    def test_no_tuple_in_the_place_of_a_row(self):
        for thing in ["end", "", None, 0, 1, True, False, [], ["end"], (("end",),)]:
            self.no(with_row(thing))

    def test_no_tuple_in_the_place_of_the_rows(self):
        for thing in ["end", "", None, 0, 1, True, [], [("end",)], ("end",)]:
            self.no((1, 2, thing))


class TestWords(ProgramCase):
    def test_unknown(self):
        for word in ["", "jumps", "go", "stop", "END", "Set", "did", "0"]:
            for parts in [(), (0,), (0, 0)]:
                self.no(with_row((word, *parts)))

    def test_a_sign_more_or_fewer(self):
        for word, bounds in BOUNDS:
            parts = (0,) * len(bounds)
            for wrong in [" " + word, word + " ", word[0] + " " + word[1:], word + "\n", "\n" + word,
                          word + "\t", word[:-1], word[1:], word + word[-1], word + "s", word.upper()]:
                self.no(with_row((wrong, *parts)))

    def test_no_text(self):
        for word, bounds in BOUNDS:
            parts = (0,) * len(bounds)
            for thing in [None, 0, 1, True, False, (), (word,), [], [word], [[word]], list(word), tuple(word)]:
                self.no(with_row((thing, *parts)))


class TestAnything(ProgramCase):
    def test_other_things(self):
        for thing in ANYTHING:
            self.no(thing)

    def test_other_things_as_rows(self):
        for thing in ANYTHING:
            if thing != ("end",):
                self.no(with_row(thing))

    def test_other_things_as_words(self):
        for thing in ANYTHING:
            if thing != "set":
                self.no(with_row((thing, 0, 0)))

    def test_other_things_as_parts(self):
        for thing in ANYTHING:
            if type(thing) is int and 0 <= thing < 3:
                continue
            for row in [("set", thing, 0), ("add", thing, 0), ("add", 0, thing), ("jump", thing, 0),
                        ("say", thing), ("take", thing), ("end", thing)]:
                self.no(with_row(row))

    def test_told_again_the_same_and_nothing_changed(self):
        rows = [["end"], [("end",)]]
        thing = (1, 2, rows)
        for _ in range(2):
            self.no(thing)
            self.yes((3, 5, SIX_KINDS))
        self.assertEqual(rows, [["end"], [("end",)]])

    def test_by_its_name(self):
        self.assertIs(is_program(thing=(1, 2, END)), True)
        self.assertIs(is_program(thing=None), False)


if __name__ == "__main__":
    unittest.main()
