"""Problems with none to four given numbers, for the tests."""


def exactly(name, row, size):
    """The step that lets a number have one size alone."""
    return ("bound", name, (row, size), (row, size))


EMPTY = []

ONE_GIVEN = [("given", "a", (7, 30))]

# A field of 1 0 by 45, its long side found again from its area and its short one.
FIELD = [
    ("given", "long", (1,)),
    ("bound", "long", ((1,), 1), ((1,), 1)),
    ("given", "short", (45,)),
    ("bound", "short", ((40,), 0), ((50,), 0)),
    ("times", "area", "long", "short"),
    ("part", "again", "area", "short"),
]

# A square's side and its area make 45 sixtieths, as scribes were taught.
SCHOOL = [
    ("given", "both", (45,)),
    ("bound", "both", None, ((1,), 0)),
    ("given", "one", (1,)),
    exactly("one", (1,), 0),
    ("given", "two", (2,)),
    exactly("two", (2,), 0),
    ("part", "half", "one", "two"),
    ("square", "small", "half"),
    ("sum", "big", "small", "both"),
    ("side", "root", "big"),
    ("less", "side", "root", "half"),
]

FOUR_GIVEN = [
    ("given", "a", (2,)),
    ("bound", "a", ((2,), -1), ((2,), 0)),
    ("given", "b", (1, 30)),
    ("given", "c", (59,)),
    ("less", "d", "b", "c"),
    ("given", "e", (1, 21)),
    ("bound", "e", ((1,), 3), None),
    ("part", "f", "d", "a"),
    ("sum", "g", "f", "e"),
]

NO_WAY = [
    ("given", "a", (7,)),
    ("given", "b", (7,)),
    ("less", "c", "a", "b"),
    ("bound", "c", None, ((1,), -2)),
    ("bound", "b", ((7,), 3), None),
    ("sum", "d", "c", "b"),
]

NO_SIDE = [("given", "a", (2,)), ("side", "b", "a")]

NO_END = [("given", "a", (2,)), ("given", "b", (14,)), ("part", "c", "b", "a"), ("part", "d", "a", "b")]

# Twenty steps, each sort among them.
TWENTY = [
    ("given", "a", (1, 12)),
    ("bound", "a", ((1,), -2), ((2,), 3)),
    ("given", "b", (5,)),
    ("bound", "b", None, ((6,), 0)),
    ("times", "c", "a", "b"),
    ("sum", "d", "c", "a"),
    ("less", "e", "d", "a"),
    ("part", "f", "e", "b"),
    ("square", "g", "f"),
    ("side", "h", "g"),
    ("sum", "i", "h", "h"),
    ("times", "j", "i", "g"),
    ("part", "k", "j", "i"),
    ("less", "l", "j", "b"),
    ("bound", "l", ((1,), 0), None),
    ("square", "m", "b"),
    ("sum", "n", "m", "l"),
    ("square", "o", "n"),
    ("side", "p", "o"),
    ("bound", "p", None, None),
]

PROBLEMS = {
    "empty": EMPTY,
    "one given": ONE_GIVEN,
    "field": FIELD,
    "school": SCHOOL,
    "four given": FOUR_GIVEN,
    "no way": NO_WAY,
    "no side": NO_SIDE,
    "no end": NO_END,
    "twenty": TWENTY,
}
