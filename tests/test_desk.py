import random
import unittest

from carrying import Model, some_call, some_program
from warmove.desk import Desk
from warmove.errors import MoveError, NoHouse, NoRow, NoStep, NoText
from warmove.texts import program_text

# Sheet 0 is taken, added to sheet 1, and sheet 1 said; sheet 2 holds 0, so the jump always jumps.
PROGRAM = "program 3 10 / take 0 / add 1 0 / say 1 / jump 2 0"
NEEDY = ["tick", "letter 1", "begin 1", "copy 0", "drop", "bring 0", "stop", "end", "early", "now", "said", "house"]
OTHER_ROWS = [
    "", " ", "  ", "ticks", "Tick", "TICK", "tic", "tick 1", "tick tick", "tick ", " tick", "tick\n", "\ntick", "tick\t",
    "letter", "letter ", "letter 1 2", "letter  1", " letter 1", "letter 1 ", "letter\t1", "letter\n1", "letters 1",
    "begin", "begin ", "begin 1 1", "begin  1", "begin 1 ", "copy", "copy ", "copy 1 1", "copy  1", "copy 1 ", "bring",
    "bring ", "bring 1 1", "drop 1", "drop ", "stop 1", "stop ", "end 1", "end ", "early 1", "now ", "now 1", "said ",
    "said 1", "house ", "house 1", "ticks 1", "program", "Program 1 2 / end", " program 1 2 / end", "program\t1 2 / end",
    "program\n1 2 / end", "programs 1 2 / end", "set 0 1", "say 0", "take 0", "add 0 1", "jump 0 0", "ok", "-", "0", "still",
    "lacks 0", "hop 0 0", "send 0", "/", " / ", "tick / tick", "run", "help", "letter / 1", "1 letter",
]
NO_NUMBERS = ["00", "01", "001", "-1", "+1", "-0", "a", "1.0", "0x1", "one", "10000", "00001", "12345678901234567890",
              "1\t", "\t1", "1\n", "\n1", "~", "1,", "/", "None", "True", "(1)", "1_0"]


class DeskCase(unittest.TestCase):
    def say(self, desk, row, answer):
        told = desk.say(row)
        self.assertEqual((told, type(told)), (answer, str), row)

    def says(self, desk, *pairs):
        """Tell rows one behind the other, and look over each answer."""
        for row, answer in pairs:
            self.say(desk, row, answer)

    def refused(self, error, desk, row, line=None):
        with self.assertRaises(error) as caught:
            desk.say(row)
        self.assertIsInstance(caught.exception, MoveError)
        if error is NoText:
            self.assertEqual(caught.exception.line, line, row)

    def told(self, text=PROGRAM):
        """Tell a desk with a program."""
        desk = Desk()
        self.say(desk, text, "ok")
        return desk


class TestRows(DeskCase):
    def test_a_program_and_its_ticks(self):
        desk = self.told()
        self.says(
            desk, ("now", "0 0 0 0"), ("said", "-"), ("house", "0"), ("tick", "waits"), ("letter 7", "ok"),
            ("tick", "took 7"), ("tick", "did"), ("tick", "said 7"), ("tick", "did"), ("now", "0 7 7 0"), ("said", "7"),
            ("letter 0", "ok"), ("letter 9", "ok"), ("tick", "took 0"), ("tick", "did"), ("tick", "said 7"),
            ("said", "7 7"), ("tick", "did"), ("tick", "took 9"), ("now", "1 9 7 0"),
        )

    def test_ended(self):
        self.says(self.told("program 1 2 / end"), ("tick", "ended"), ("tick", "ended"), ("now", "0 0"))

    def test_a_number_that_is_0_is_not_left_out(self):
        desk = self.told("program 1 2 / say 0 / take 0")
        self.says(desk, ("tick", "said 0"), ("letter 0", "ok"), ("tick", "took 0"), ("said", "0"))

    def test_a_carrying_to_its_end(self):
        self.says(
            self.told(), ("begin 5", "ok"), ("copy 0", "ok"), ("copy 2", "ok"), ("letter 3", "ok"), ("tick", "took 3"),
            ("copy 0", "ok"), ("stop", "1"), ("tick", "still"), ("end", "4"), ("house", "5"), ("tick", "did"),
        )

    def test_stop_with_none_left_and_with_several(self):
        self.says(self.told(), ("begin 1", "ok"), ("copy 0", "ok"), ("copy 1", "ok"), ("copy 2", "ok"), ("stop", "-"))
        self.says(self.told(), ("begin 1", "ok"), ("copy 1", "ok"), ("stop", "0 2"))
        self.says(self.told(), ("begin 1", "ok"), ("stop", "0 1 2"))

    def test_early_and_bring(self):
        desk = self.told()
        self.says(
            desk, ("letter 4", "ok"), ("begin 2", "ok"), ("copy 2", "ok"), ("stop", "0 1"), ("early", "1"),
            ("house", "2"), ("tick", "took 4"), ("tick", "lacks 1"), ("now", "1 4 0 0"), ("bring 1", "ok"),
            ("tick", "did"), ("tick", "said 4"), ("said", "4"),
        )
        self.refused(NoStep, desk, "bring 0")

    def test_early_without_copies(self):
        self.says(self.told(), ("begin 2", "ok"), ("stop", "0 1 2"), ("early", "0"))

    def test_drop(self):
        self.says(
            self.told(), ("begin 3", "ok"), ("drop", "ok"), ("begin 3", "ok"), ("stop", "0 1 2"), ("drop", "ok"),
            ("house", "0"), ("tick", "waits"),
        )

    def test_carried_from_house_0_of_six(self):
        for h in range(1, 6):
            self.says(self.told(), (f"begin {h}", "ok"), ("stop", "0 1 2"), ("end", "3"), ("house", str(h)))
        for h in (0, 6, 7, 8, 9):
            self.refused(NoHouse, self.told(), f"begin {h}")

    def test_numbers_of_two_figures(self):
        desk = self.told("program 12 100" + " / take 11" * 3 + " / say 11")
        self.says(
            desk, ("letter 99", "ok"), ("letter 10", "ok"), ("letter 0", "ok"), ("tick", "took 99"), ("begin 1", "ok"),
            ("copy 11", "ok"), ("copy 10", "ok"), ("stop", "0 1 2 3 4 5 6 7 8 9"), ("early", "2"), ("tick", "took 10"),
            ("now", "2 0 0 0 0 0 0 0 0 0 0 0 10"), ("bring 9", "ok"), ("tick", "took 0"), ("tick", "said 0"),
        )

    def test_a_program_told_anew(self):
        desk = self.told()
        self.says(
            desk, ("letter 7", "ok"), ("letter 8", "ok"), ("tick", "took 7"), ("tick", "did"), ("tick", "said 7"),
            ("begin 2", "ok"), ("stop", "0 1 2"), ("early", "0"),
            ("program 2 3 / take 1 / say 0", "ok"), ("now", "0 0 0"), ("said", "-"), ("house", "0"), ("tick", "waits"),
            ("letter 2", "ok"), ("begin 2", "ok"), ("copy 1", "ok"),
        )
        for row in ("letter 3", "copy 2", "bring 2"):
            self.refused(NoRow, desk, row)


class TestNoRow(DeskCase):
    def test_none_of_these_by_its_words(self):
        for desk in (Desk(), self.told()):
            for row in OTHER_ROWS:
                self.refused(NoRow, desk, row)

    def test_needs_a_program_where_none_is(self):
        desk = Desk()
        for row in NEEDY:
            self.refused(NoRow, desk, row)
        self.refused(NoText, desk, "program 1 2 / ends", 1)
        for row in NEEDY:
            self.refused(NoRow, desk, row)
        for row in ["begin 0", "begin 9", "letter 9999", "copy 12"]:
            self.refused(NoRow, desk, row)

    def test_no_number_of_the_wheel(self):
        for w in (2, 10, 11, 100):
            desk = self.told(f"program 1 {w} / end")
            for v in range(w):
                self.say(desk, f"letter {v}", "ok")
            for v in (w, w + 1, 100, 999, 9999):
                self.refused(NoRow, desk, f"letter {v}")

    def test_no_sheet(self):
        for n in (1, 3, 12):
            desk = self.told(f"program {n} 2 / end")
            self.say(desk, "begin 1", "ok")
            for p in range(n):
                self.say(desk, f"copy {p}", "ok")
                self.refused(NoStep, desk, f"bring {p}")
            for p in (n, n + 1, 12, 99, 9999):
                self.refused(NoRow, desk, f"copy {p}")
                self.refused(NoRow, desk, f"bring {p}")

    def test_a_house_with_more_than_one_figure(self):
        desk = self.told()
        for h in ["10", "11", "99", "100", "9999", "00", "01", "05"]:
            self.refused(NoRow, desk, f"begin {h}")

    def test_numbers_written_otherwise(self):
        desk = self.told()
        self.say(desk, "begin 1", "ok")
        for word in ("letter", "begin", "copy", "bring"):
            for number in NO_NUMBERS:
                self.refused(NoRow, desk, f"{word} {number}")

    def test_goes_ahead_of_the_others(self):
        # No carrying is on, so these would be refused with NoStep, too; or with NoHouse.
        desk = self.told()
        for row in ["copy 3", "bring 3", "copy 01", "begin 10", "begin 00"]:
            self.refused(NoRow, desk, row)


class TestNoText(DeskCase):
    def test_a_program_that_is_not_so(self):
        for desk in (Desk(), self.told()):
            for text, line in [
                ("", 0), (" ", 0), ("  ", 0), ("1", 0), ("1 2", 1), ("1 2 / ", 1), ("1 2 /", 0), ("1 2 / end / ", 2),
                ("1 2 / end /", 1), ("1 2 / end ", 1), (" 1 2 / end", 0), ("1  2 / end", 0), ("1 2 /  end", 1),
                ("1 2  / end", 0), ("1 2/end", 0), ("1 2 /end", 0), ("1 2/ end", 0), ("/ end", 0), (" / end", 0), ("/", 0),
                (" / ", 0), ("1 2 / set 0 2", 1), ("0 2 / end", 0), ("1 2 / end / say 1", 2), ("1 2 / jump 0 1", 1),
                ("1 2 / jump 0 9 / end / wrong", 3), ("1 2" + " / end" * 21, 21), ("1 2" + " / jump 0 99" * 21, 21),
                ("01 2 / end", 0), ("1 2 / END", 1), ("1 2 / set 0 10000", 1), ("program 1 2 / end", 0), ("tick", 0),
            ]:
                self.refused(NoText, desk, "program " + text, line)

    def test_parted_from_the_front_on(self):
        desk = Desk()
        self.refused(NoText, desk, "program 1 2 / / end", 1)
        self.refused(NoText, desk, "program 1 2 /  / end", 1)
        self.refused(NoText, desk, "program 1 2 / end / / end", 2)
        # Of " / / " the first sign group parts, and a line "/ .." is behind it.
        self.refused(NoText, desk, "program 1 2 / end / / / end", 2)

    def test_a_line_feed_parts_no_lines(self):
        desk = Desk()
        for text, line in [("1 2\nend", 0), ("1 2 / end\nend", 1), ("1 2 / end\n", 1), ("1 2 / end\n/ end", 1),
                           ("\n1 2 / end", 0), ("1 2\n / end", 0), ("1 2 / \nend", 1), ("1\n2 / end", 0), ("\n", 0),
                           ("1 2 / end / say\n0", 2), ("1 2 /\nend", 0), ("1 2\n/\nend", 0)]:
            self.refused(NoText, desk, "program " + text, line)

    def test_tabs(self):
        desk = Desk()
        for text, line in [("1\t2 / end", 0), ("1 2\t/\tend", 0), ("1 2 / end\t", 1), ("\t1 2 / end", 0)]:
            self.refused(NoText, desk, "program " + text, line)


class TestAs20Tells(DeskCase):
    def test_no_house_ahead_of_no_step(self):
        desk = self.told()
        self.say(desk, "begin 1", "ok")
        for h in (0, 6, 9):
            self.refused(NoHouse, desk, f"begin {h}")
        for h in (1, 2, 5):
            self.refused(NoStep, desk, f"begin {h}")

    def test_no_step(self):
        desk = self.told()
        for row in ("copy 0", "stop", "end", "early", "drop", "bring 0"):
            self.refused(NoStep, desk, row)
        self.say(desk, "begin 1", "ok")
        for row in ("end", "early", "bring 0", "begin 2"):
            self.refused(NoStep, desk, row)
        self.say(desk, "stop", "0 1 2")
        for row in ("copy 0", "stop", "bring 0", "begin 2"):
            self.refused(NoStep, desk, row)
        self.say(desk, "early", "0")
        for row in ("copy 0", "stop", "end", "early", "drop", "begin 2"):
            self.refused(NoStep, desk, row)
        self.say(desk, "bring 0", "ok")
        self.refused(NoStep, desk, "bring 0")

    def test_what_is_refused_changes_nothing(self):
        desk = self.told()
        self.says(desk, ("letter 5", "ok"), ("tick", "took 5"), ("begin 4", "ok"), ("copy 0", "ok"))
        rows = OTHER_ROWS + ["program ", "program 1 2", "program 1 2 / ends", "begin 0", "begin 9", "begin 3", "end",
                             "early", "bring 1", "letter 10", "copy 3", "copy 00"]
        for row in rows:
            with self.assertRaises(MoveError):
                desk.say(row)
            self.says(desk, ("now", "1 5 0 0"), ("said", "-"), ("house", "0"))
        self.says(desk, ("stop", "1 2"), ("end", "3"), ("house", "4"), ("tick", "did"))


class TestLongRows(DeskCase):
    def row_of(self, word, handed):
        return " ".join([word] + [str(number) for number in handed])

    def answer_of(self, told):
        """Tell the text of what a call told."""
        if told is None:
            return "ok"
        if isinstance(told, int):
            return str(told)
        return " ".join(str(part) for part in told if part is not None) or "-"

    def call(self, chance, desk, model):
        word, handed = some_call(chance, model)
        if min(handed, default=0) < 0:
            self.refused(NoRow, desk, self.row_of(word, handed))
            return
        told = getattr(model, word)(*handed)
        if isinstance(told, type):
            self.refused(told, desk, self.row_of(word, handed))
        else:
            self.say(desk, self.row_of(word, handed), self.answer_of(told))
        at, sheets = model.now()
        self.says(
            desk, ("now", self.answer_of([at, *sheets])), ("said", self.answer_of(model.said())),
            ("house", str(model.house())),
        )

    def begun(self, chance, desk):
        """Tell a desk a program by chance, and tell its model."""
        program, stand = some_program(chance)
        self.say(desk, "program " + program_text(program).replace("\n", " / "), "ok")
        return Model(program, (0, (0,) * program[0]), 6)

    def test_as_the_model_has_it(self):
        chance = random.Random(22)
        desk = Desk()
        for _ in range(60):
            model = self.begun(chance, desk)
            for _ in range(80):
                self.call(chance, desk, model)

    def test_two_side_by_side(self):
        chance = random.Random(23)
        desks = [Desk(), Desk()]
        self.say(desks[0], PROGRAM, "ok")
        self.refused(NoRow, desks[1], "now")
        models = [self.begun(chance, desk) for desk in desks]
        for _ in range(600):
            at = chance.randrange(2)
            self.call(chance, desks[at], models[at])

    def test_by_its_name(self):
        desk = Desk()
        self.assertEqual(desk.say(row=PROGRAM), "ok")
        self.assertEqual(desk.say(row="now"), "0 0 0 0")


if __name__ == "__main__":
    unittest.main()
