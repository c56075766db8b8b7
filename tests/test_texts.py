import random
import unittest

from warmove.errors import MoveError, NoText
from warmove.programs import is_program
from warmove.texts import program_text, read_program

SIX_KINDS = (("set", 1, 4), ("add", 0, 2), ("jump", 2, 5), ("say", 0), ("take", 1), ("end",))
TEXT = "3 5\nset 1 4\nadd 0 2\njump 2 5\nsay 0\ntake 1\nend"

# A line of each kind that is so with 3 sheets and a wheel of 5.
LINES = ["set 1 4", "add 0 2", "jump 2 0", "say 0", "take 1", "end"]
# Words that are no number, each in the place of one.
NO_NUMBERS = [
    "", "00", "01", "001", "0000", "00000", "10000", "99999", "12345678901234567890", "-1", "+1", "-0", "+0", "1.0", "1.",
    "a", "x1", "1x", "0x1", "1e0", "one", "None", "True", "1,", "1_0", "\t1", "1\t", "\t", "(1)", "1/1", "~", "!",
]


def some_program(chance):
    n, w, many = chance.randint(1, 12), chance.randint(2, 100), chance.randint(1, 20)
    rows = []
    for _ in range(many):
        p, q, v, k = chance.randrange(n), chance.randrange(n), chance.randrange(w), chance.randrange(many)
        rows.append(chance.choice([("set", p, v), ("add", p, q), ("jump", p, k), ("say", p), ("take", p), ("end",)]))
    return (n, w, tuple(rows))


class TextCase(unittest.TestCase):
    def reads(self, text, program):
        for _ in range(2):
            told = read_program(text)
            self.assertEqual(told, program)
            self.assertIs(is_program(told), True)

    def refused(self, text, line):
        for _ in range(2):
            with self.assertRaises(NoText) as caught:
                read_program(text)
            self.assertEqual(caught.exception.line, line, text)
            self.assertIs(type(caught.exception.line), int)
            self.assertIsInstance(caught.exception, MoveError)

    def no_line(self, line):
        """Look that a line isn't so, as the first row, behind one that is, and behind twenty."""
        self.refused("3 5\n" + line, 1)
        self.refused("3 5\nend\n" + line, 2)
        self.refused("3 5\n" + line + "\nend", 1)
        self.refused("3 5\n" + "end\n" * 19 + line, 20)
        self.refused("3 5\n" + "end\n" * 20 + line, 21)


class TestTexts(TextCase):
    def test_each_kind(self):
        told = program_text((3, 5, SIX_KINDS))
        self.assertEqual((told, type(told)), (TEXT, str))
        self.reads(TEXT, (3, 5, SIX_KINDS))

    def test_the_least_and_the_greatest(self):
        for program, text in [
            ((1, 2, (("end",),)), "1 2\nend"),
            ((12, 100, (("set", 11, 99),) * 20), "12 100" + "\nset 11 99" * 20),
            ((12, 100, (("jump", 11, 19),) * 20), "12 100" + "\njump 11 19" * 20),
            ((1, 2, (("set", 0, 0), ("jump", 0, 1))), "1 2\nset 0 0\njump 0 1"),
        ]:
            self.assertEqual(program_text(program), text)
            self.reads(text, program)

    def test_of_each_other(self):
        chance = random.Random(23)
        for _ in range(500):
            program = some_program(chance)
            text = program_text(program)
            self.reads(text, program)
            self.assertEqual(program_text(read_program(text)), text)

    def test_by_their_names(self):
        self.assertEqual(program_text(program=(3, 5, SIX_KINDS)), TEXT)
        self.assertEqual(read_program(text=TEXT), (3, 5, SIX_KINDS))


class TestLine0(TextCase):
    def test_without_signs(self):
        self.refused("", 0)
        self.refused("\n", 0)
        self.refused("\nend", 0)

    def test_bounds(self):
        for n in range(1, 13):
            self.reads(f"{n} 2\nend", (n, 2, (("end",),)))
        for w in range(2, 101):
            self.reads(f"1 {w}\nend", (1, w, (("end",),)))
        for sizes in ["0 2", "13 2", "1 0", "1 1", "1 101", "1 9999", "9999 2", "13 101", "1 102", "14 2"]:
            self.refused(sizes + "\nend", 0)
            self.refused(sizes, 0)

    def test_words(self):
        for sizes in ["3", "3 5 1", "3 5 end", "end", "a b", "3,5", "3\t5", "3 5\t", "\t3 5", "n w", "35", "3 / 5"]:
            self.refused(sizes + "\nend", 0)

    def test_no_numbers(self):
        for word in NO_NUMBERS:
            self.refused(f"{word} 5\nend", 0)
            self.refused(f"3 {word}\nend", 0)

    def test_blanks(self):
        for sizes in [" 3 5", "3 5 ", "3  5", " ", "  ", " 3  5 "]:
            self.refused(sizes + "\nend", 0)

    def test_line_0_goes_first(self):
        for rest in ["", "\n", "\nwrong", "\nend" * 21, "\njump 0 9"]:
            self.refused("0 5" + rest, 0)


class TestRows(TextCase):
    def test_no_row(self):
        self.refused("3 5", 1)
        self.refused("12 100", 1)

    def test_an_empty_line(self):
        self.no_line("")
        self.refused("3 5\n", 1)
        self.refused("3 5\nend\n", 2)
        self.refused("3 5\n\nend", 1)

    def test_a_blank_more(self):
        for line in LINES:
            words = line.split(" ")
            self.no_line(" " + line)
            self.no_line(line + " ")
            for at in range(1, len(words)):
                self.no_line(" ".join(words[:at]) + "  " + " ".join(words[at:]))

    def test_a_tab(self):
        for line in LINES:
            self.no_line("\t" + line)
            self.no_line(line + "\t")
            if " " in line:
                self.no_line(line.replace(" ", "\t"))
                self.no_line(line.replace(" ", "\t", 1))
                self.no_line(line.replace(" ", " \t", 1))

    def test_a_word_more_or_fewer(self):
        for line in LINES:
            self.no_line(line + " 0")
            self.no_line(line + " end")
            if " " in line:
                self.no_line(line.rpartition(" ")[0])
                self.no_line(line.partition(" ")[2])
        self.no_line("set")
        self.no_line("add 1")
        self.no_line("end 0")

    def test_a_word_that_is_none(self):
        for line in LINES:
            word, blank, rest = line.partition(" ")
            for other in [word.upper(), word.capitalize(), word + "s", word[:-1], "", "go", "0", f'"{word}"', word + ","]:
                self.no_line(other + blank + rest)

    def test_no_numbers(self):
        for line in LINES[:5]:
            words = line.split(" ")
            for at in range(1, len(words)):
                for other in NO_NUMBERS:
                    self.no_line(" ".join(words[:at] + [other] + words[at + 1:]))

    def test_bounds(self):
        for word, bounds in [("set", (3, 5)), ("add", (3, 3)), ("say", (3,)), ("take", (3,)), ("jump", (3, 1))]:
            for at, bound in enumerate(bounds):
                for number in range(bound):
                    numbers = [0] * len(bounds)
                    numbers[at] = number
                    line = " ".join([word] + [str(one) for one in numbers])
                    self.reads("3 5\n" + line, (3, 5, ((word, *numbers),)))
                if (word, at) != ("jump", 1):
                    for number in [bound, bound + 1, 99, 9999]:
                        numbers[at] = number
                        self.no_line(" ".join([word] + [str(one) for one in numbers]))

    def test_bounds_hang_on_line_0(self):
        self.reads("12 100\nset 11 99", (12, 100, (("set", 11, 99),)))
        self.refused("11 100\nset 11 99", 1)
        self.refused("12 99\nset 11 99", 1)

    def test_the_first_line_that_is_not_so(self):
        self.refused("3 5\nend\nwrong\nend\nwrong\n", 2)
        self.refused("3 5\nend\nend\nset 3 0\nset 0 5", 3)


class TestHowMany(TextCase):
    def test_twenty_and_more(self):
        self.reads("3 5" + "\nend" * 20, (3, 5, (("end",),) * 20))
        for many in (21, 22, 40):
            self.refused("3 5" + "\nend" * many, 21)
        self.refused("3 5" + "\nend" * 20 + "\n", 21)
        self.refused("3 5" + "\nend" * 20 + "\nwrong", 21)

    def test_a_line_ahead_that_is_not_so_goes_first(self):
        for at in range(1, 21):
            lines = ["end"] * 22
            lines[at - 1] = "set 3 0"
            self.refused("3 5\n" + "\n".join(lines), at)

    def test_whatever_their_jumps_lead_to(self):
        for k in (0, 20, 21, 22, 9999):
            self.refused("3 5" + f"\njump 0 {k}" * 21, 21)
            self.refused(f"3 5\njump 0 {k}" + "\nend" * 20, 21)


class TestJumps(TextCase):
    def test_to_no_row(self):
        self.reads("3 5\njump 0 0", (3, 5, (("jump", 0, 0),)))
        for k in (1, 2, 19, 20, 99, 100, 999, 1000, 9999):
            self.refused(f"3 5\njump 0 {k}", 1)
        self.reads("3 5\njump 0 1\nend", (3, 5, (("jump", 0, 1), ("end",))))
        self.refused("3 5\nend\njump 0 2", 2)
        self.refused("3 5" + "\nend" * 19 + "\njump 0 20", 20)
        self.reads("3 5" + "\nend" * 19 + "\njump 0 19", (3, 5, (("end",),) * 19 + (("jump", 0, 19),)))

    def test_looked_at_last_of_all(self):
        self.refused("3 5\njump 0 9\nwrong", 2)
        self.refused("3 5\njump 0 9\nend\nset 3 0", 3)
        self.refused("3 5\njump 0 9\nend\n", 3)
        self.refused("3 5\njump 0 9\njump 0 10000", 2)
        self.refused("3 5\njump 0 9\njump 3 0", 2)
        self.refused("3 5\njump 0 9\nend\nend", 1)

    def test_the_first_of_them(self):
        self.refused("3 5\nend\njump 0 9\njump 0 0\njump 0 8", 2)
        self.refused("3 5\njump 0 0\njump 0 4\njump 0 9\nend", 2)

    def test_five_figures(self):
        self.no_line("jump 0 10000")
        self.no_line("jump 0 00000")
        self.no_line("jump 0 00")


class TestByChance(TextCase):
    def test_one_sign_changed(self):
        # What is read is just what is written again: no other text of a program is let by.
        chance = random.Random(24)
        signs = [chr(sign) for sign in range(32, 127) if chr(sign) != "%"] + ["\n", "\t"] + list("0123456789 \n") * 5
        read = 0
        for _ in range(4000):
            text = program_text(some_program(chance))
            at = chance.randint(0, len(text))
            text = text[:at] + chance.choice(["", *signs]) + text[at + chance.randrange(2):]
            try:
                program = read_program(text)
            except NoText as refused:
                self.assertIn(refused.line, range(22))
            else:
                read += 1
                self.assertIs(is_program(program), True)
                self.assertEqual(program_text(program), text)
        self.assertGreater(read, 100)


if __name__ == "__main__":
    unittest.main()
