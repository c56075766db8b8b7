"""Things of all kinds, for what is told of anything."""


def nested(kind, depth):
    """Tell a thing of so many tuples or lists within one another."""
    thing = kind()
    for _ in range(depth - 1):
        thing = kind([thing])
    return thing


SMALL = [0, 1, -1, 2, 12, 100, 10 ** 59, -(10 ** 59), True, False, None, "", " ", "end", "set", "0", "(1, 2)"]

ANYTHING = (
    SMALL
    + [(), []]
    + [(thing,) for thing in SMALL]
    + [[thing] for thing in SMALL]
    + [(one, other) for one in SMALL for other in SMALL]
    + [(thing, thing, thing) for thing in SMALL]
    + [(1, 2, thing) for thing in SMALL]
    + [(1, 2, (thing,)) for thing in SMALL]
    + [(1, 2, ((thing,),)) for thing in SMALL if thing != "end"]
    + [(0, thing) for thing in SMALL]
    + [((), []), ([], ()), ((), (), ()), ([], [], []), ([[]], [[]])]
    + [nested(kind, depth) for kind in (tuple, list) for depth in range(1, 13)]
    + [(1, 2, nested(kind, depth)) for kind in (tuple, list) for depth in range(1, 12)]
)

# What stands in the place of a number and is none: truths, texts, None, tuples and lists.
NO_NUMBERS = [True, False, "0", "1", "", None, (), (0,), [], [0], [[1]]]
