"""One tick of a program."""


def row_at(program, at):
    """Tell the row numbered at; behind the last row it is as if an end row stood there."""
    rows = program[2]
    return rows[at] if at < len(rows) else ("end",)


def rising(p, q):
    """Tell the rising tuple of two sheets, which may be one."""
    return (p,) if p == q else (min(p, q), max(p, q))


def stand_behind_writing(stand, p, number):
    """Tell the stand at the row behind, where sheet p holds the number."""
    at, sheets = stand
    return (at + 1, sheets[:p] + (number,) + sheets[p + 1:])


def nothing_done(stand, word):
    """Tell of a tick by which the stand stays as it is."""
    return (stand, word, None, (), ())


def do_set(stand, p, number):
    """Tell of a tick that sets sheet p."""
    return (stand_behind_writing(stand, p, number), "did", None, (), (p,))


def do_add(stand, w, p, q):
    """Tell of a tick that adds what sheet q holds to sheet p, round a wheel of w numbers."""
    sheets = stand[1]
    total = (sheets[p] + sheets[q]) % w
    return (stand_behind_writing(stand, p, total), "did", None, rising(p, q), (p,))


def do_jump(stand, p, k):
    """Tell of a tick that goes to row k where sheet p holds 0."""
    at, sheets = stand
    to = k if sheets[p] == 0 else at + 1
    return ((to, sheets), "did", None, (p,), ())


def do_say(stand, p):
    """Tell of a tick that says what sheet p holds."""
    at, sheets = stand
    return ((at + 1, sheets), "said", sheets[p], (p,), ())


def do_take(stand, p, letters):
    """Tell of a tick that takes the first letter to sheet p, or waits for one."""
    if len(letters) == 0:
        return nothing_done(stand, "waits")
    # The letters are the caller's own: who keeps them drops the first one where "took" is told.
    letter = letters[0]
    return (stand_behind_writing(stand, p, letter), "took", letter, (), (p,))


def tick(program, stand, letters):
    """Do one tick from a stand, with the letters that lie there: (stand, word, number, reads, writes)."""
    row = row_at(program, stand[0])
    word = row[0]
    if word == "set":
        return do_set(stand, row[1], row[2])
    if word == "add":
        return do_add(stand, program[1], row[1], row[2])
    if word == "jump":
        return do_jump(stand, row[1], row[2])
    if word == "say":
        return do_say(stand, row[1])
    if word == "take":
        return do_take(stand, row[1], letters)
    return nothing_done(stand, "ended")
