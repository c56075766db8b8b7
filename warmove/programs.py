"""What is a program, and what is a stand of one."""

MOST_SHEETS = 12
LEAST_WHEEL = 2
MOST_WHEEL = 100
MOST_ROWS = 20


def is_whole(thing):
    """Tell whether a thing is a whole number."""
    # Python counts True and False as ints; here a truth is no number.
    return isinstance(thing, int) and not isinstance(thing, bool)


def is_whole_within(thing, least, most):
    """Tell whether a thing is a whole number from least to most."""
    return is_whole(thing) and least <= thing <= most


def is_tuple_of(thing, many):
    """Tell whether a thing is a tuple with so many parts."""
    return isinstance(thing, tuple) and len(thing) == many


def row_limits(n, w, many):
    """For each word of a row, tell below which number each part behind it is."""
    return {
        "set": (n, w),
        "add": (n, n),
        "jump": (n, many),
        "say": (n,),
        "take": (n,),
        "end": (),
    }


def is_row(thing, n, w, many):
    """Tell whether a thing is a row among many, over n sheets and a wheel of w numbers."""
    if not isinstance(thing, tuple) or len(thing) == 0:
        return False
    word = thing[0]
    # A list can't be looked up in a dict, so only texts are.
    if not isinstance(word, str):
        return False
    limits = row_limits(n, w, many).get(word)
    if limits is None or len(thing) != 1 + len(limits):
        return False
    return all(is_whole_within(part, 0, limit - 1) for part, limit in zip(thing[1:], limits))


def is_program(thing):
    """Tell of anything whether it is a program."""
    if not is_tuple_of(thing, 3):
        return False
    n, w, rows = thing
    if not is_whole_within(n, 1, MOST_SHEETS) or not is_whole_within(w, LEAST_WHEEL, MOST_WHEEL):
        return False
    if not isinstance(rows, tuple):
        return False
    many = len(rows)
    if not 1 <= many <= MOST_ROWS:
        return False
    return all(is_row(row, n, w, many) for row in rows)


def is_stand(program, thing):
    """Tell of anything whether it is a stand of the program."""
    if not is_program(program) or not is_tuple_of(thing, 2):
        return False
    n, w, rows = program
    at, sheets = thing
    if not is_whole_within(at, 0, len(rows)) or not is_tuple_of(sheets, n):
        return False
    return all(is_whole_within(number, 0, w - 1) for number in sheets)
