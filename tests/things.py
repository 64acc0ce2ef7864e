"""Things of any kind to hand in, and a way to see that what is told is plain."""


class OwnWhole(int):
    """A whole number of a class of its own."""


class OwnText(str):
    """A text of a class of its own."""


class OwnTuple(tuple):
    """A tuple of a class of its own."""


class OwnList(list):
    """A list of a class of its own."""


def own(thing):
    """The thing with all in it of classes of their own."""
    if isinstance(thing, tuple):
        return OwnTuple(own(part) for part in thing)
    if isinstance(thing, list):
        return OwnList(own(part) for part in thing)
    return thing if thing is None else OwnText(thing) if isinstance(thing, str) else OwnWhole(thing)


def nested(depth, last, wrap):
    """last within so many lists or tuples."""
    for step in range(depth):
        last = wrap([last])
    return last


HUGE = 10 ** 59 + 7
MANY_FIGURES = "1" * 5000

# Made anew at each call: some of them can be changed.
def anything():
    """Things of each kind; no date, no text of a day or a time, no clock."""
    return [
        None, True, False, 0, 1, -1, 7, 2001, HUGE, -HUGE,
        "", " ", "\n", "a", "2001", "None", "(2001, 1, 1)", "((0, 0),)", MANY_FIGURES, "~" * 300,
        (), [], ((),), [[]], ([],), [()], (None,), (True,), ("",), ((), ()), ([], [], []),
        (None, None, None), (True, True, True), ("2001", "1", "1"), ((2001,), (1,), (1,)),
        (2001,), (2001, 1), (HUGE, HUGE, HUGE), (-HUGE, 1, 1), ((2001, 1, 1),), [2001, 1, 1],
        (0, 0), [(0, 0)], ([0, 0],), ((0, 0, 0),), ((0,),), ((0, HUGE),), ((-HUGE, 0),), ("00",),
        nested(30, 1, tuple), nested(30, (0, 0), tuple), nested(30, None, list), nested(29, "a", tuple),
    ]


def plain_kinds(thing):
    """Whether a thing and all in it are of the plain kinds themselves."""
    if type(thing) in (list, tuple):
        return all(plain_kinds(part) for part in thing)
    return thing is None or type(thing) in (int, bool, str)
