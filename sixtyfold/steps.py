"""Steps of problems: what each of them must be, by itself and behind those ahead of it."""

from sixtyfold.errors import BadStep
from sixtyfold.rows import is_row

MOST_STEPS = 20
MOST_GIVEN = 4
MOST_LETTERS = 8
MOST_SIZE = 6

# How many items a step of each word has, the word included.
COUNTS = {"given": 3, "bound": 4, "times": 4, "part": 4, "sum": 4, "less": 4, "square": 3, "side": 3}


def is_name(text):
    """Whether a text can name a number."""
    return 1 <= len(text) <= MOST_LETTERS and all(["a" <= letter <= "z" for letter in text])


def check_problem(problem):
    """Refuse a problem with a bad step; the names of one that has none, as keys of a dict."""
    if len(problem) > MOST_STEPS:
        raise BadStep(MOST_STEPS, "many")
    names = {}
    given = 0
    for at, step in enumerate(problem):
        why = fault_of(step, names, given)
        if why != "":
            raise BadStep(at, why)
        names[step[1]] = True
        if step[0] == "given":
            given += 1
    return names


def fault_of(step, names, given):
    """The first word that tells what is wrong with a step, behind these names and so many given; "" if it is good."""
    if len(step) == 0 or step[0] not in COUNTS or len(step) != COUNTS[step[0]]:
        return "word"
    word = step[0]
    name = step[1]
    # A bound's name stands already, that of any other step must not.
    if not is_name(name) or (name in names) != (word == "bound"):
        return "name"
    if word == "given":
        return fault_of_given(step[2], given)
    if word == "bound":
        return fault_of_bound(step[2]) or fault_of_bound(step[3])
    if not all([other in names for other in step[2:]]):
        return "name"
    return ""


def fault_of_given(row, given):
    """What is wrong with a given row behind so many given ones; "" if nothing is."""
    if given >= MOST_GIVEN:
        return "many"
    if not is_row(row):
        return "row"
    return ""


def fault_of_bound(bound):
    """What is wrong with one side of a bound; "" if nothing is."""
    if bound is None:
        return ""
    row, size = bound
    if not is_row(row):
        return "row"
    if not -MOST_SIZE <= size <= MOST_SIZE:
        return "size"
    return ""
