"""A desk that is told rows and answers each with a text."""

from warmove.carried import Carried
from warmove.errors import NoRow
from warmove.texts import number_of, read_lines, words_text

HOUSES = 6
# A house is one figure.
HOUSE_FIGURES = 10


def or_dash(numbers):
    """Tell the numbers, - for none."""
    return words_text(numbers) if len(numbers) > 0 else "-"


def answer_alone(carried, word):
    """Answer a row of one word; refused with NoRow where there is no such row."""
    if word == "tick":
        told = carried.tick()
        return words_text([part for part in told if part is not None])
    if word == "drop":
        carried.drop()
        return "ok"
    if word == "stop":
        return or_dash(carried.stop())
    if word == "end":
        return str(carried.end())
    if word == "early":
        return str(carried.early())
    if word == "now":
        at, sheets = carried.now()
        return words_text((at, *sheets))
    if word == "said":
        return or_dash(carried.said())
    if word == "house":
        return str(carried.house())
    raise NoRow("there is no such row")


def number_limits(program):
    """For each word with a number behind it, tell below which bound the number is."""
    n, w, rows = program
    return {"letter": w, "begin": HOUSE_FIGURES, "copy": n, "bring": n}


def answer_with_number(carried, word, number):
    """Do what a row of one of these words and a number asks for."""
    if word == "letter":
        carried.letter(number)
    if word == "begin":
        carried.begin(number)
    if word == "copy":
        carried.copy(number)
    if word == "bring":
        carried.bring(number)
    return "ok"


class Desk:
    """A desk with at most one carried program."""

    def __init__(self):
        self.carried = None
        self.limits = {}

    def say(self, row):
        """Answer a row; refused with NoRow, then with NoText, then as the carried program refuses."""
        word, blank, others = row.partition(" ")
        if word == "program" and blank == " ":
            return self.begin_program(others)
        if self.carried is None:
            raise NoRow("no program was told, or there is no such row")
        if blank == "":
            return answer_alone(self.carried, word)
        number = number_of(others)
        if word not in self.limits or number is None or number >= self.limits[word]:
            raise NoRow("there is no such row")
        return answer_with_number(self.carried, word, number)

    def begin_program(self, text):
        """Take a program, by its lines with " / " between, in the place of the one ahead."""
        program = read_lines(text.split(" / "))
        n = program[0]
        self.carried = Carried(program, (0, (0,) * n), HOUSES)
        self.limits = number_limits(program)
        return "ok"
