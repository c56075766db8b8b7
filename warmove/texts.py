"""Programs as texts: the sheets and the wheel by a line, then each row by a line."""

from warmove.errors import NoText
from warmove.programs import LEAST_WHEEL, MOST_ROWS, MOST_SHEETS, MOST_WHEEL, is_row, is_whole_within

FIGURES = "0123456789"
MOST_FIGURES = 4
# No number of so many figures is this great: by it a jump's number is looked at by its figures alone.
BEYOND_FIGURES = 10000


def words_text(words):
    """Tell the words and numbers with a blank between two."""
    return " ".join(str(word) for word in words)


def program_text(program):
    """Tell a program by lines."""
    n, w, rows = program
    return "\n".join([words_text((n, w))] + [words_text(row) for row in rows])


def number_of(word):
    """Tell the number that a word is, None where it is none."""
    if not 1 <= len(word) <= MOST_FIGURES or not all(sign in FIGURES for sign in word):
        return None
    if word[0] == "0" and word != "0":
        return None
    return int(word)


def read_sizes(line):
    """Tell the sheets and the wheel by line 0; refused with NoText."""
    numbers = [number_of(word) for word in line.split(" ")]
    if len(numbers) != 2:
        raise NoText(0)
    n, w = numbers
    if not is_whole_within(n, 1, MOST_SHEETS) or not is_whole_within(w, LEAST_WHEEL, MOST_WHEEL):
        raise NoText(0)
    return (n, w)


def row_of(line):
    """Tell the tuple of a line's word and numbers, None for each that is no number."""
    word, *others = line.split(" ")
    return (word, *[number_of(other) for other in others])


def read_rows(lines, n, w):
    """Tell the rows by their lines, wherever their jumps lead; refused with NoText."""
    rows = []
    for at, line in enumerate(lines, start=1):
        row = row_of(line)
        if at > MOST_ROWS or not is_row(row, n, w, BEYOND_FIGURES):
            raise NoText(at)
        rows.append(row)
    if len(rows) == 0:
        raise NoText(1)
    return tuple(rows)


def read_lines(lines):
    """Tell the program that is written by these lines; refused with NoText."""
    n, w = read_sizes(lines[0])
    rows = read_rows(lines[1:], n, w)
    for at, row in enumerate(rows, start=1):
        if not is_row(row, n, w, len(rows)):
            raise NoText(at)
    return (n, w, rows)


def read_program(text):
    """Tell the program that is written by a text; refused with NoText."""
    return read_lines(text.split("\n"))
